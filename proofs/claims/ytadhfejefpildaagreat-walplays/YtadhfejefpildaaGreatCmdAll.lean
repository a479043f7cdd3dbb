import Derived.Test.YtadhfejefpildaaGreatCallsSm
import Derived.Test.YtadhfejefpildaaGreatCnAll
import Derived.Test.YtadhfejefpildaaGreatCallsDg
set_option maxHeartbeats 16000000
set_option maxRecDepth 100000
namespace Go.Proofs.YtadhfejefpildaaGreat.Command
open Go.RowKit
open Go.Proofs.YtadhfejefpildaaGreat.Calls
theorem chk0 {l:List POp}(h:chk l=0):aI l=true/\(aA l).length<=4096:=by
 unfold chk at h
 split at h
 ·split at h
  ·exact ⟨by assumption,by assumption⟩
  ·omega
 ·omega
structure PCmd where
 kind:Int
 token:Int
 session:Int
 number:Int
 mark:Int
 ops:List POp
deriving DecidableEq
def bi:PCmd:=⟨0,0,0,0,0,[]⟩
def cV (c:PCmd):PCmd :=
 if c.kind=1 then ⟨c.kind,c.token,0,0,0,[]⟩
 else if c.kind=2 then ⟨c.kind,0,c.session,c.number,c.mark,c.ops⟩
 else if c.kind=3\/c.kind=4 then ⟨c.kind,0,c.session,0,0,[]⟩
 else ⟨c.kind,0,0,0,0,[]⟩
def idC (c:PCmd):Option Int:=if c.kind=1 then some c.token else if c.kind=2\/c.kind=3\/c.kind=4 then some c.session else none
def idOk (c:PCmd):Bool:=match idC c with | some n=>decide (1<=n) | none=>false
def ns (c:PCmd):Bool:=decide (c.kind=2->0<=c.mark/\c.mark<c.number)
def fitC (c:PCmd):Bool:=idOk c && ns c && decide (c=cV c)
def okC (c:PCmd):Bool:=fitC c && decide (c.kind=2->chk c.ops=0)
def chkC (c:PCmd):Int:=if okC c=true then 0 else 2
structure InC (c:PCmd):Prop where
 k0:-9223372036854775808<=c.kind
 k1:c.kind<=9223372036854775807
 t0:-9223372036854775808<=c.token
 t1:c.token<=9223372036854775807
 s0:-9223372036854775808<=c.session
 s1:c.session<=9223372036854775807
 n0:-9223372036854775808<=c.number
 n1:c.number<=9223372036854775807
 m0:-9223372036854775808<=c.mark
 m1:c.mark<=9223372036854775807
def sgn (n:Int):Bs:=Wire.ai (Wire.bX n)
def dn (c:PCmd):Bs:=Wire.ai c.kind.toNat
def dA (c:PCmd):List Int:=if c.kind=1 then [c.token] else if c.kind=2 then [c.session,c.number,c.mark] else if c.kind=3\/c.kind=4 then [c.session] else []
def cB (c:PCmd):Bs:=dn c ++ (dA c).flatMap sgn
def aS (c:PCmd):Bs:=cB c ++ (if c.kind=2 then ag (aA c.ops) else [])
theorem fU {c:PCmd}(h:okC c=true):fitC c=true:=by unfold okC at h;simp only [Bool.and_eq_true] at h;exact h.1
theorem kP {c:PCmd}(h:okC c=true)(hk:c.kind=2):chk c.ops=0:=by unfold okC at h;simp only [Bool.and_eq_true,decide_eq_true_eq] at h;exact h.2 hk
theorem dQ {c:PCmd}(h:fitC c=true):1<=c.kind/\c.kind<=4:=by
 unfold fitC idOk idC at h
 simp only [Bool.and_eq_true] at h
 have h1:=h.1.1
 split at h1
 ·rename_i n hn
  split at hn
  ·omega
  ·split at hn
   ·omega
   ·cases hn
 ·cases h1
theorem nu {c:PCmd}(h:fitC c=true):c=cV c:=by unfold fitC at h;simp only [Bool.and_eq_true,decide_eq_true_eq] at h;exact h.2
def pSgn (L:Bs):Option (Int × Bs):=(pNum 18446744073709551615 L).map fun x=>(Wire.bI x.1,x.2)
def finC (c:PCmd)(M:Bs):Option PCmd:=if M=[]/\okC c=true then some c else none
def pCmd (L:Bs):Option PCmd:=(pNum 4 L).bind fun k =>
 if k.1=1 then (pSgn k.2).bind fun t=>finC ⟨1,t.1,0,0,0,[]⟩ t.2
 else if k.1=2 then (pSgn k.2).bind fun s=>(pSgn s.2).bind fun n=>(pSgn n.2).bind fun m=>(aN 4096 m.2).bind fun b=>(cE b.1).bind fun l=>finC ⟨2,0,s.1,n.1,m.1,l⟩ b.2
 else if k.1=3\/k.1=4 then (pSgn k.2).bind fun s=>finC ⟨k.1,0,s.1,0,0,[]⟩ s.2
 else none
theorem lE (n:Nat):Wire.bX (Wire.bI n)=n:=by
 unfold Wire.bI Wire.bX;split <;> split <;> omega
theorem dR {n:Int}(h0:-9223372036854775808<=n)(h1:n<=9223372036854775807)(M:Bs):pSgn (sgn n ++ M)=some (n,M):=by
 unfold pSgn sgn
 have:=Wire.jQ n h0 h1
 rw [cM (by omega) (by decide)]
 simp [Wire.mK]
theorem eN {n:Int}{L M:Bs}(h:pSgn L=some (n,M)):L=sgn n ++ M:=by
 unfold pSgn at h
 cases hx:pNum 18446744073709551615 L with
 | none=>rw [hx] at h;cases h
 | some x =>
  rw [hx] at h
  simp at h
  obtain ⟨rfl,rfl⟩:=h
  unfold sgn
  rw [lE]
  exact (cq (n:=x.1) (M:=x.2) hx).1
theorem kc {n:Nat}(h:n<=18446744073709551615):-9223372036854775808<=Wire.bI n/\Wire.bI n<=9223372036854775807:=by
 unfold Wire.bI;split <;> omega
theorem dx {n:Int}{L M:Bs}(h:pSgn L=some (n,M)):-9223372036854775808<=n/\n<=9223372036854775807:=by
 unfold pSgn at h
 cases hx:pNum 18446744073709551615 L with
 | none=>rw [hx] at h;cases h
 | some x =>
  rw [hx] at h
  simp at h
  obtain ⟨rfl,rfl⟩:=h
  exact kc (cq (n:=x.1) (M:=x.2) hx).2
theorem iz {c d:PCmd}{M:Bs}(h:finC c M=some d):c=d/\M=[]/\okC d=true:=by
 unfold finC at h
 split at h
 ·rename_i hh
  simp at h
  subst h
  exact ⟨rfl,hh.1,hh.2⟩
 ·cases h
theorem ke {c:PCmd}(h:okC c=true)(hi:InC c):pCmd (aS c)=some c:=by
 have hk:=dQ (fU h)
 have hn:=nu (fU h)
 unfold pCmd aS cB dn dA
 by_cases h1:c.kind=1
 ·have e:c=⟨1,c.token,0,0,0,[]⟩:=by rw [hn,cV,if_pos h1];simp [h1]
  rw [if_pos h1,if_neg (by omega),h1]
  simp only [List.flatMap_cons,List.flatMap_nil,List.append_nil]
  rw [cM (by decide) (by decide)]
  simp only [Option.bind_some]
  rw [if_pos (by decide)]
  have:=dR hi.t0 hi.t1 []
  rw [List.append_nil] at this
  rw [this]
  simp only [Option.bind_some]
  rw [<-e,finC,if_pos ⟨rfl,h⟩]
 ·rw [if_neg h1]
  by_cases h2:c.kind=2
  ·have e:c=⟨2,0,c.session,c.number,c.mark,c.ops⟩:=by rw [hn,cV,if_neg h1,if_pos h2];simp [h2]
   rw [if_pos h2,if_pos h2,h2]
   simp only [List.flatMap_cons,List.flatMap_nil,List.append_nil,List.append_assoc]
   rw [cM (by decide) (by decide)]
   simp only [Option.bind_some]
   rw [if_neg (by decide),if_pos (by decide),dR hi.s0 hi.s1]
   simp only [Option.bind_some]
   rw [dR hi.n0 hi.n1]
   simp only [Option.bind_some]
   rw [dR hi.m0 hi.m1]
   simp only [Option.bind_some]
   have hc:=kP h h2
   have hb:=cH (b:=aA c.ops) (most:=4096) (chk0 hc).2 (by decide) []
   rw [List.append_nil] at hb
   rw [hb]
   simp only [Option.bind_some]
   rw [cN.2 ⟨(chk0 hc).1,rfl⟩]
   simp only [Option.bind_some]
   rw [<-e,finC,if_pos ⟨rfl,h⟩]
  ·have h3:c.kind=3\/c.kind=4:=by omega
   have e:c=⟨c.kind,0,c.session,0,0,[]⟩:=by rw [hn,cV,if_neg h1,if_neg h2,if_pos h3]
   rw [if_neg h2,if_pos h3,if_neg h2]
   simp only [List.flatMap_cons,List.flatMap_nil,List.append_nil]
   rw [cM (by omega) (by decide)]
   simp only [Option.bind_some]
   rw [if_neg (by omega),if_neg (by omega),if_pos (by omega)]
   have:=dR hi.s0 hi.s1 []
   rw [List.append_nil] at this
   rw [this]
   simp only [Option.bind_some]
   rw [show ((c.kind.toNat:Nat):Int)=c.kind by omega,<-e,finC,if_pos ⟨rfl,h⟩]
theorem lF {c:PCmd}{L:Bs}(h:pCmd L=some c):okC c=true/\L=aS c/\InC c:=by
 unfold pCmd at h
 cases hk:pNum 4 L with
 | none=>rw [hk] at h;cases h
 | some k =>
  rw [hk] at h
  simp only [Option.bind_some] at h
  obtain ⟨eL,hk4⟩:=cq (n:=k.1) (M:=k.2) hk
  split at h
  ·rename_i k1
   cases ht:pSgn k.2 with
   | none=>rw [ht] at h;cases h
   | some t =>
    rw [ht] at h
    simp only [Option.bind_some] at h
    obtain ⟨rfl,e2,e3⟩:=iz h
    have b:=dx (n:=t.1) (M:=t.2) ht
    refine ⟨e3,?_,?_⟩
    ·rw [eL,eN (n:=t.1) (M:=t.2) ht,e2,k1]
     simp [aS,cB,dn,dA]
    ·constructor <;> first | exact b.1 | exact b.2 | (dsimp only;omega)
  ·split at h
   ·rename_i k1 k2
    cases hs:pSgn k.2 with
    | none=>rw [hs] at h;cases h
    | some s =>
     rw [hs] at h
     simp only [Option.bind_some] at h
     cases hn:pSgn s.2 with
     | none=>rw [hn] at h;cases h
     | some n =>
      rw [hn] at h
      simp only [Option.bind_some] at h
      cases hm:pSgn n.2 with
      | none=>rw [hm] at h;cases h
      | some m =>
       rw [hm] at h
       simp only [Option.bind_some] at h
       cases hb:aN 4096 m.2 with
       | none=>rw [hb] at h;cases h
       | some b =>
        rw [hb] at h
        simp only [Option.bind_some] at h
        cases hl:cE b.1 with
        | none=>rw [hl] at h;cases h
        | some l =>
         rw [hl] at h
         simp only [Option.bind_some] at h
         obtain ⟨rfl,e2,e3⟩:=iz h
         have bs:=dx (n:=s.1) (M:=s.2) hs
         have bn:=dx (n:=n.1) (M:=n.2) hn
         have bm:=dx (n:=m.1) (M:=m.2) hm
         refine ⟨e3,?_,?_⟩
         ·rw [eL,eN (n:=s.1) (M:=s.2) hs,eN (n:=n.1) (M:=n.2) hn,eN (n:=m.1) (M:=m.2) hm,(bT (b:=b.1) (M:=b.2) hb).1,e2,(cN.1 hl).2,k2]
          simp [aS,cB,dn,dA]
         ·constructor <;> first | exact bs.1 | exact bs.2 | exact bn.1 | exact bn.2 | exact bm.1 | exact bm.2 | (dsimp only;omega)
   ·split at h
    ·rename_i k1 k2 k3
     cases hs:pSgn k.2 with
     | none=>rw [hs] at h;cases h
     | some s =>
      rw [hs] at h
      simp only [Option.bind_some] at h
      obtain ⟨rfl,e2,e3⟩:=iz h
      have b:=dx (n:=s.1) (M:=s.2) hs
      refine ⟨e3,?_,?_⟩
      ·rw [eL,eN (n:=s.1) (M:=s.2) hs,e2]
       have q1:¬((k.1:Nat):Int)=1:=by omega
       have q2:¬((k.1:Nat):Int)=2:=by omega
       have q3:((k.1:Nat):Int)=3\/((k.1:Nat):Int)=4:=by omega
       simp [aS,cB,dn,dA,q1,q2,q3]
      ·constructor <;> first | exact b.1 | exact b.2 | (dsimp only;omega)
    ·cases h
def aM (b:Bs):PCmd × Int:=match pCmd b with | some c=>(c,0) | none=>(bi,4)
theorem gB {c:PCmd}(h:okC c=true)(hi:InC c):aM (aS c)=(c,0):=by unfold aM;rw [ke h hi]
end Go.Proofs.YtadhfejefpildaaGreat.Command
namespace Go.Proofs.YtadhfejefpildaaGreat.Command
open Go.RowKit Disk
open Go.Proofs.YtadhfejefpildaaGreat.Calls
def cmdV (ov:Value)(c:PCmd):Value:=.agg #[.int .i64 c.kind,.int .i64 c.token,.int .i64 c.session,.int .i64 c.number,.int .i64 c.mark,ov]
def cmdA (ov:Value)(c:PCmd):Array Value:=#[.int .i64 c.kind,.int .i64 c.token,.int .i64 c.session,.int .i64 c.number,.int .i64 c.mark,ov]
def CB (w:World)(b:Nat)(ov:Value)(c:PCmd):Prop:=Blk w b 32 (cmdA ov c)
def pt (b i:Nat):Value:=.pointer (some ⟨b,i,none⟩)
theorem CB.cells {w:World}{b:Nat}{ov:Value}{c:PCmd}(h:CB w b ov c):w.cell? ⟨b,0,none⟩=some (.int .i64 c.kind)/\w.cell? ⟨b,1,none⟩=some (.int .i64 c.token)/\w.cell? ⟨b,2,none⟩=some (.int .i64 c.session)/\w.cell? ⟨b,3,none⟩=some (.int .i64 c.number)/\w.cell? ⟨b,4,none⟩=some (.int .i64 c.mark)/\w.cell? ⟨b,5,none⟩=some ov:=by
 have q:=fun j=>Blk.cell h j
 exact ⟨q 0,q 1,q 2,q 3,q 4,q 5⟩
theorem CB.grown {w w':World}{b:Nat}{ov:Value}{c:PCmd}(h:CB w b ov c)(hg:w.grownBy w' none):CB w' b ov c:=Blk.grown h hg (by simp)
theorem CB.lt {w:World}{b:Nat}{ov:Value}{c:PCmd}(h:CB w b ov c):b<w.heap.size:=Blk.lt h
theorem ow (w:World)(x y z:Value):w.grownBy (w.alloc (.cells #[x,y,z] 129)) none/\(w.alloc (.cells #[x,y,z] 129)).cell? ⟨w.heap.size,0,none⟩=some x/\(w.alloc (.cells #[x,y,z] 129)).cell? ⟨w.heap.size,1,none⟩=some y/\(w.alloc (.cells #[x,y,z] 129)).cell? ⟨w.heap.size,2,none⟩=some z:=by
 have hb:Blk (w.alloc (.cells #[x,y,z] 129)) w.heap.size 129 #[x,y,z]:=heap_alloc_new _ _
 exact ⟨World.grownBy_alloc _ _ _,hb.cell 0,hb.cell 1,hb.cell 2⟩
theorem dB (b:Nat)(ov:Value)(c:PCmd)(w:World)(h:CB w b ov c)(hk:c.kind=1):Calls Tryz.prog 68 #[.pointer (some ⟨b,0,none⟩)] w fun e w'=>e=.returned (.agg #[pt b 1,.pointer none,.pointer none])/\w.grownBy w' none:=by
 obtain ⟨c0,_⟩:=h.cells
 rw [hk] at c0
 have c0':=fun o=>(World.grownBy_alloc w o none).cell c0 (by simp)
 go_enter Tryz.func68,Tryz.ntmps68
 go_wp2_with fail
 obtain ⟨g,q0,q1,q2⟩:=ow w (pt b 1) (.pointer none) (.pointer none)
 exact bodyPost_ret (v:=.agg #[pt b 1,.pointer none,.pointer none]) (by simp [results,Tryz.results68,go_sem,pt]) rfl ⟨rfl,g⟩
theorem fD (b:Nat)(ov:Value)(c:PCmd)(w:World)(h:CB w b ov c)(hk:c.kind=3):Calls Tryz.prog 68 #[.pointer (some ⟨b,0,none⟩)] w fun e w'=>e=.returned (.agg #[pt b 2,.pointer none,.pointer none])/\w.grownBy w' none:=by
 obtain ⟨c0,_⟩:=h.cells
 rw [hk] at c0
 have c0':=fun o=>(World.grownBy_alloc w o none).cell c0 (by simp)
 go_enter Tryz.func68,Tryz.ntmps68
 go_wp2_with fail
 obtain ⟨g,q0,q1,q2⟩:=ow w (pt b 2) (.pointer none) (.pointer none)
 exact bodyPost_ret (v:=.agg #[pt b 2,.pointer none,.pointer none]) (by simp [results,Tryz.results68,go_sem,pt]) rfl ⟨rfl,g⟩
theorem fE (b:Nat)(ov:Value)(c:PCmd)(w:World)(h:CB w b ov c)(hk:c.kind=4):Calls Tryz.prog 68 #[.pointer (some ⟨b,0,none⟩)] w fun e w'=>e=.returned (.agg #[pt b 2,.pointer none,.pointer none])/\w.grownBy w' none:=by
 obtain ⟨c0,_⟩:=h.cells
 rw [hk] at c0
 have c0':=fun o=>(World.grownBy_alloc w o none).cell c0 (by simp)
 go_enter Tryz.func68,Tryz.ntmps68
 go_wp2_with fail
 obtain ⟨g,q0,q1,q2⟩:=ow w (pt b 2) (.pointer none) (.pointer none)
 exact bodyPost_ret (v:=.agg #[pt b 2,.pointer none,.pointer none]) (by simp [results,Tryz.results68,go_sem,pt]) rfl ⟨rfl,g⟩
theorem fa (b:Nat)(ov:Value)(c:PCmd)(w:World)(h:CB w b ov c)(hk:c.kind=3\/c.kind=4):Calls Tryz.prog 68 #[.pointer (some ⟨b,0,none⟩)] w fun e w'=>e=.returned (.agg #[pt b 2,.pointer none,.pointer none])/\w.grownBy w' none:=by
 rcases hk with hk | hk
 ·exact fD b ov c w h hk
 ·exact fE b ov c w h hk
theorem eh (b:Nat)(ov:Value)(c:PCmd)(w:World)(h:CB w b ov c)(h1:(c.kind==1)=false)(h2:(c.kind==2)=false)(h3:(c.kind==3)=false)(h4:(c.kind==4)=false):Calls Tryz.prog 68 #[.pointer (some ⟨b,0,none⟩)] w fun e w'=>e=.returned (.agg #[.pointer none,.pointer none,.pointer none])/\w.grownBy w' none:=by
 obtain ⟨c0,_⟩:=h.cells
 have c0':=fun o=>(World.grownBy_alloc w o none).cell c0 (by simp)
 go_enter Tryz.func68,Tryz.ntmps68
 go_wp2_with fail
 obtain ⟨g,q0,q1,q2⟩:=ow w (.pointer none) (.pointer none) (.pointer none)
 exact bodyPost_ret (v:=.agg #[.pointer none,.pointer none,.pointer none]) (by simp [results,Tryz.results68,go_sem,q0,q1,q2]) rfl ⟨rfl,g⟩
theorem dD (b:Nat)(ov:Value)(c:PCmd)(w:World)(h:CB w b ov c)(hk:c.kind=2):Calls Tryz.prog 68 #[.pointer (some ⟨b,0,none⟩)] w fun e w'=>e=.returned (.agg #[pt b 2,pt b 3,pt b 4])/\w.grownBy w' none:=by
 obtain ⟨c0,_⟩:=h.cells
 rw [hk] at c0
 have c0':=fun o=>(World.grownBy_alloc w o none).cell c0 (by simp)
 go_enter Tryz.func68,Tryz.ntmps68
 go_wp2_with fail
 have HB:Hid (Blk (w.alloc (.cells #[.pointer none,.pointer none,.pointer none] 129)) w.heap.size 129 #[.pointer none,.pointer none,.pointer none]/\w.grownBy (w.alloc (.cells #[.pointer none,.pointer none,.pointer none] 129)) none):=⟨heap_alloc_new _ _,World.grownBy_alloc _ _ _⟩
 generalize w.alloc (.cells #[.pointer none,.pointer none,.pointer none] 129)=w1 at HB ⊢
 refine wp_region_noPanic ?_
 refine am 10 (fun y=>w1.grownBy y none) (by kernel_rfl) ?_
 have G0:Hid (w1.grownBy w1.drew none):=af _ _
 generalize w1.drew=wd at G0 ⊢
 have J:Idx [0,1,2,3,4,5,6,7,8,9]:=trivial
 iterate 10 (refine tK J (G0.out) rfl rfl (fun wk hk=>by skip;go_simp;try rfl) ?_;replace J:=J.tl;try simp only [pN])
 refine wO 10 rfl fun K hK=>?_
 have hb:=HB.out.1.grown G0.out (by simp)
 have k0:=hb.cell 0
 have k1:=hb.cell 1
 have k2:=hb.cell 2
 have f0:=hb.free 0
 have f1:=hb.free 1
 have f2:=hb.free 2
 simp at k0 k1 k2
 go_wp2_with fail
 have HS:Hid (Blk (((wd.setCell ⟨w.heap.size,0,none⟩ (pt b 2)).setCell ⟨w.heap.size,1,none⟩ (pt b 3)).setCell ⟨w.heap.size,2,none⟩ (pt b 4)) w.heap.size 129 #[pt b 2,pt b 3,pt b 4]/\w.grownBy (((wd.setCell ⟨w.heap.size,0,none⟩ (pt b 2)).setCell ⟨w.heap.size,1,none⟩ (pt b 3)).setCell ⟨w.heap.size,2,none⟩ (pt b 4)) none) :=
  ⟨((hb.store 0 _).store 1 _).store 2 _,ah (aa HB.out.2 G0.out) (aa (aa (ae _ _ _ _) (ae _ _ _ _)) (ae _ _ _ _)) (by intro x hx;simp at hx;omega)⟩
 unfold pt at HS
 generalize ((wd.setCell ⟨w.heap.size,0,none⟩ (.pointer (some ⟨b,2,none⟩))).setCell ⟨w.heap.size,1,none⟩ (.pointer (some ⟨b,3,none⟩))).setCell ⟨w.heap.size,2,none⟩ (.pointer (some ⟨b,4,none⟩))=w2 at HS ⊢
 refine hK.out _ _ (fun h=>absurd rfl h) ?_
 clear hK K
 try simp only [pN]
 refine wD ?_
 refine (‹∀(a:Act) (w:World),Code.wp Tryz.prog _ _ a w->_› _ _ ?_)
 go_wp2_with fail
 have q0:=HS.out.1.cell 0
 have q1:=HS.out.1.cell 1
 have q2:=HS.out.1.cell 2
 exact bodyPost_ret (v:=.agg #[pt b 2,pt b 3,pt b 4]) (by simp [results,Tryz.results68,go_sem,q0,q1,q2,pt]) rfl ⟨rfl,HS.out.2⟩
theorem PCmd.ext' {a b:PCmd}:a=b<->a.kind=b.kind/\a.token=b.token/\a.session=b.session/\a.number=b.number/\a.mark=b.mark/\a.ops=b.ops:=by
 constructor
 ·rintro rfl;simp
 ·rintro ⟨h1,h2,h3,h4,h5,h6⟩
  cases a;cases b;simp_all
theorem g2 (w:World)(x y:Obj):w.grownBy ((w.alloc x).alloc y) none:=aa gA_ gA_
theorem nw (u v:Value)(a b:PCmd)(w:World)(ha:Ops w u a.ops)(hb:Ops w v b.ops) :
  Calls Tryz.prog 94 #[cmdV u a,cmdV v b] w fun e w'=>e=.returned (.bool (decide (a=b)))/\w.grownBy w' none:=by
 unfold cmdV
 obtain ⟨ao,n,ca,rfl,hn,_,HA⟩:=aX ha
 obtain ⟨bo,m,cb,rfl,hm,_,HB⟩:=aX hb
 clear ha hb hn hm
 have HS:Hid (∀x y,Calls Tryz.prog 116 #[.agg #[.slice ao n ca],.agg #[.slice bo m cb]] ((w.alloc x).alloc y) fun e w'=>e=.returned (.bool (decide (a.ops=b.ops)))/\((w.alloc x).alloc y).grownBy w' none):=fun x y=>uG _ _ a.ops b.ops _ (HA.out.grown (g2 _ _ _)) (HB.out.grown (g2 _ _ _))
 clear HA HB
 obtain ⟨a0,ha0⟩:∃x,a.kind=x:=⟨_,rfl⟩
 obtain ⟨a1,ha1⟩:∃x,a.token=x:=⟨_,rfl⟩
 obtain ⟨a2,ha2⟩:∃x,a.session=x:=⟨_,rfl⟩
 obtain ⟨a3,ha3⟩:∃x,a.number=x:=⟨_,rfl⟩
 obtain ⟨a4,ha4⟩:∃x,a.mark=x:=⟨_,rfl⟩
 obtain ⟨b0,hb0⟩:∃x,b.kind=x:=⟨_,rfl⟩
 obtain ⟨b1,hb1⟩:∃x,b.token=x:=⟨_,rfl⟩
 obtain ⟨b2,hb2⟩:∃x,b.session=x:=⟨_,rfl⟩
 obtain ⟨b3,hb3⟩:∃x,b.number=x:=⟨_,rfl⟩
 obtain ⟨b4,hb4⟩:∃x,b.mark=x:=⟨_,rfl⟩
 have HE:Hid ((a=b)<->(a0=b0/\a1=b1/\a2=b2/\a3=b3/\a4=b4/\a.ops=b.ops)):=by unfold Hid;rw [PCmd.ext',ha0,ha1,ha2,ha3,ha4,hb0,hb1,hb2,hb3,hb4]
 rw [ha0,ha1,ha2,ha3,ha4,hb0,hb1,hb2,hb3,hb4]
 obtain ⟨so,hso⟩:∃x,decide (a.ops=b.ops)=x:=⟨_,rfl⟩
 rw [hso] at HS
 have HO:Hid (decide (a.ops=b.ops)=so):=hso
 clear hso ha0 ha1 ha2 ha3 ha4 hb0 hb1 hb2 hb3 hb4
 by_cases e0:a0=b0
 rotate_left
 ·have q0:(a0==b0)=false:=by simp [e0]
  have N0:Hid (¬a0=b0):=e0
  clear e0
  go_enter Tryz.func94,Tryz.ntmps94
  go_wp2_with fail
  go_ret
  refine ⟨?_,g2 _ _ _⟩
  have:¬a=b:=fun h=>N0.out (HE.out.1 h).1
  simp [this]
 subst e0
 by_cases e1:a1=b1
 rotate_left
 ·have q1:(a1==b1)=false:=by simp [e1]
  have N1:Hid (¬a1=b1):=e1
  clear e1
  go_enter Tryz.func94,Tryz.ntmps94
  go_wp2_with fail
  go_ret
  refine ⟨?_,g2 _ _ _⟩
  have:¬a=b:=fun h=>N1.out (HE.out.1 h).2.1
  simp [this]
 subst e1
 by_cases e2:a2=b2
 rotate_left
 ·have q2:(a2==b2)=false:=by simp [e2]
  have N2:Hid (¬a2=b2):=e2
  clear e2
  go_enter Tryz.func94,Tryz.ntmps94
  go_wp2_with fail
  go_ret
  refine ⟨?_,g2 _ _ _⟩
  have:¬a=b:=fun h=>N2.out (HE.out.1 h).2.2.1
  simp [this]
 subst e2
 by_cases e3:a3=b3
 rotate_left
 ·have q3:(a3==b3)=false:=by simp [e3]
  have N3:Hid (¬a3=b3):=e3
  clear e3
  go_enter Tryz.func94,Tryz.ntmps94
  go_wp2_with fail
  go_ret
  refine ⟨?_,g2 _ _ _⟩
  have:¬a=b:=fun h=>N3.out (HE.out.1 h).2.2.2.1
  simp [this]
 subst e3
 by_cases e4:a4=b4
 rotate_left
 ·have q4:(a4==b4)=false:=by simp [e4]
  have N4:Hid (¬a4=b4):=e4
  clear e4
  go_enter Tryz.func94,Tryz.ntmps94
  go_wp2_with fail
  go_ret
  refine ⟨?_,g2 _ _ _⟩
  have:¬a=b:=fun h=>N4.out (HE.out.1 h).2.2.2.2.1
  simp [this]
 subst e4
 go_enter Tryz.func94,Tryz.ntmps94
 go_wp2_with (go_at_call 116;refine (HS.out _ _).mono ?_;rintro e w1 ⟨rfl,hg1⟩)
 go_ret
 refine ⟨?_,aa (g2 _ _ _) hg1⟩
 refine congrArg (fun x=>Ending.returned (Value.bool x)) ?_
 rw [<-HO.out]
 by_cases h:a.ops=b.ops
 ·have:a=b:=HE.out.2 (by simp [h])
  simp [this]
 ·have:¬a=b:=fun e=>h (HE.out.1 e).2.2.2.2.2
  simp [this,h]
theorem uQ (u v:Value)(a b:PCmd)(w:World)(ha:Ops w u a.ops)(hb:Ops w v b.ops) :
  Calls Tryz.prog 11 #[cmdV u a,cmdV v b] w fun e w'=>e=.returned (.bool (decide (a=b)))/\w.grownBy w' none:=by
 unfold cmdV
 obtain ⟨ao,n,ca,rfl,hn,_,HA⟩:=aX ha
 obtain ⟨bo,m,cb,rfl,hm,_,HB⟩:=aX hb
 clear ha hb hn hm
 have HS:Hid (∀x y,Calls Tryz.prog 47 #[.agg #[.slice ao n ca],.agg #[.slice bo m cb]] ((w.alloc x).alloc y) fun e w'=>e=.returned (.bool (decide (a.ops=b.ops)))/\((w.alloc x).alloc y).grownBy w' none):=fun x y=>uM _ _ a.ops b.ops _ (HA.out.grown (g2 _ _ _)) (HB.out.grown (g2 _ _ _))
 clear HA HB
 obtain ⟨a0,ha0⟩:∃x,a.kind=x:=⟨_,rfl⟩
 obtain ⟨a1,ha1⟩:∃x,a.token=x:=⟨_,rfl⟩
 obtain ⟨a2,ha2⟩:∃x,a.session=x:=⟨_,rfl⟩
 obtain ⟨a3,ha3⟩:∃x,a.number=x:=⟨_,rfl⟩
 obtain ⟨a4,ha4⟩:∃x,a.mark=x:=⟨_,rfl⟩
 obtain ⟨b0,hb0⟩:∃x,b.kind=x:=⟨_,rfl⟩
 obtain ⟨b1,hb1⟩:∃x,b.token=x:=⟨_,rfl⟩
 obtain ⟨b2,hb2⟩:∃x,b.session=x:=⟨_,rfl⟩
 obtain ⟨b3,hb3⟩:∃x,b.number=x:=⟨_,rfl⟩
 obtain ⟨b4,hb4⟩:∃x,b.mark=x:=⟨_,rfl⟩
 have HE:Hid ((a=b)<->(a0=b0/\a1=b1/\a2=b2/\a3=b3/\a4=b4/\a.ops=b.ops)):=by unfold Hid;rw [PCmd.ext',ha0,ha1,ha2,ha3,ha4,hb0,hb1,hb2,hb3,hb4]
 rw [ha0,ha1,ha2,ha3,ha4,hb0,hb1,hb2,hb3,hb4]
 obtain ⟨so,hso⟩:∃x,decide (a.ops=b.ops)=x:=⟨_,rfl⟩
 rw [hso] at HS
 have HO:Hid (decide (a.ops=b.ops)=so):=hso
 clear hso ha0 ha1 ha2 ha3 ha4 hb0 hb1 hb2 hb3 hb4
 by_cases e0:a0=b0
 rotate_left
 ·have q0:(a0==b0)=false:=by simp [e0]
  have N0:Hid (¬a0=b0):=e0
  clear e0
  go_enter Tryz.func11,Tryz.ntmps11
  go_wp2_with fail
  go_ret
  refine ⟨?_,g2 _ _ _⟩
  have:¬a=b:=fun h=>N0.out (HE.out.1 h).1
  simp [this]
 subst e0
 by_cases e1:a1=b1
 rotate_left
 ·have q1:(a1==b1)=false:=by simp [e1]
  have N1:Hid (¬a1=b1):=e1
  clear e1
  go_enter Tryz.func11,Tryz.ntmps11
  go_wp2_with fail
  go_ret
  refine ⟨?_,g2 _ _ _⟩
  have:¬a=b:=fun h=>N1.out (HE.out.1 h).2.1
  simp [this]
 subst e1
 by_cases e2:a2=b2
 rotate_left
 ·have q2:(a2==b2)=false:=by simp [e2]
  have N2:Hid (¬a2=b2):=e2
  clear e2
  go_enter Tryz.func11,Tryz.ntmps11
  go_wp2_with fail
  go_ret
  refine ⟨?_,g2 _ _ _⟩
  have:¬a=b:=fun h=>N2.out (HE.out.1 h).2.2.1
  simp [this]
 subst e2
 by_cases e3:a3=b3
 rotate_left
 ·have q3:(a3==b3)=false:=by simp [e3]
  have N3:Hid (¬a3=b3):=e3
  clear e3
  go_enter Tryz.func11,Tryz.ntmps11
  go_wp2_with fail
  go_ret
  refine ⟨?_,g2 _ _ _⟩
  have:¬a=b:=fun h=>N3.out (HE.out.1 h).2.2.2.1
  simp [this]
 subst e3
 by_cases e4:a4=b4
 rotate_left
 ·have q4:(a4==b4)=false:=by simp [e4]
  have N4:Hid (¬a4=b4):=e4
  clear e4
  go_enter Tryz.func11,Tryz.ntmps11
  go_wp2_with fail
  go_ret
  refine ⟨?_,g2 _ _ _⟩
  have:¬a=b:=fun h=>N4.out (HE.out.1 h).2.2.2.2.1
  simp [this]
 subst e4
 go_enter Tryz.func11,Tryz.ntmps11
 go_wp2_with (go_at_call 47;refine (HS.out _ _).mono ?_;rintro e w1 ⟨rfl,hg1⟩)
 go_ret
 refine ⟨?_,aa (g2 _ _ _) hg1⟩
 refine congrArg (fun x=>Ending.returned (Value.bool x)) ?_
 rw [<-HO.out]
 by_cases h:a.ops=b.ops
 ·have:a=b:=HE.out.2 (by simp [h])
  simp [this]
 ·have:¬a=b:=fun e=>h (HE.out.1 e).2.2.2.2.2
  simp [this,h]
theorem ix0 (w:World)(x y z:Value):(Instr.index 129 (.agg #[x,y,z]) (.int .i64 0)).run Tryz.prog w=.ok x w:=by kernel_rfl
theorem ix1 (w:World)(x y z:Value):(Instr.index 129 (.agg #[x,y,z]) (.int .i64 1)).run Tryz.prog w=.ok y w:=by kernel_rfl
theorem ix2 (w:World)(x y z:Value):(Instr.index 129 (.agg #[x,y,z]) (.int .i64 2)).run Tryz.prog w=.ok z w:=by kernel_rfl
theorem al3 (w:World)(A B D:Array Value)(s t u:Nat):∃W,((w.alloc (.cells A s)).alloc (.cells B t)).alloc (.cells D u)=W/\Hid (Blk W w.heap.size s A/\Blk W (w.heap.size+1) t B/\Blk W (w.heap.size+1+1) u D/\w.grownBy W none/\W.heap.size=w.heap.size+3):=by
 refine ⟨_,rfl,?_,?_,?_,?_,by simp⟩
 ·exact Blk.grown (Blk.grown (heap_alloc_new _ _) gA_ (by simp)) gA_ (by simp)
 ·have:=Blk.grown (t:=t) (c:=B) (heap_alloc_new (w.alloc (.cells A s)) (.cells B t)) (World.grownBy_alloc _ (.cells D u) none) (by simp)
  simpa using this
 ·have:=heap_alloc_new ((w.alloc (.cells A s)).alloc (.cells B t)) (.cells D u)
  rw [show ((w.alloc (.cells A s)).alloc (.cells B t)).heap.size=w.heap.size+1+1 by simp] at this
  exact this
 ·exact aa (g2 _ _ _) gA_
theorem set6 {x:World}{b:Nat}{c0 c1 c2 c3 c4 c5:Value}(h:Blk x b 32 #[c0,c1,c2,c3,c4,c5])(v0 v1 v2 v3 v4 v5:Value):∃W,(((((x.setCell ⟨b,0,none⟩ v0).setCell ⟨b,1,none⟩ v1).setCell ⟨b,2,none⟩ v2).setCell ⟨b,3,none⟩ v3).setCell ⟨b,4,none⟩ v4).setCell ⟨b,5,none⟩ v5=W/\Hid (Blk W b 32 #[v0,v1,v2,v3,v4,v5]/\x.grownBy W (some b)) :=
 ⟨_,rfl,(((((h.store 0 v0).store 1 v1).store 2 v2).store 3 v3).store 4 v4).store 5 v5,aa (aa (aa (aa (aa (ae _ _ _ _) (ae _ _ _ _)) (ae _ _ _ _)) (ae _ _ _ _)) (ae _ _ _ _)) (ae _ _ _ _)⟩
theorem al1 (w:World)(c:Array Value)(t:Nat):∃w1,w.alloc (.cells c t)=w1/\Hid (Blk w1 w.heap.size t c/\w.grownBy w1 none/\w1.heap.size=w.heap.size+1) :=
 ⟨_,rfl,heap_alloc_new _ _,World.grownBy_alloc _ _ _,by simp⟩
theorem pD (ao:Option Addr)(n cp:Nat)(tk ss nb mk:Int)(l:List POp)(w:World):Calls Tryz.prog 95 #[cmdV (.slice ao n cp) ⟨1,tk,ss,nb,mk,l⟩] w fun e w'=>e=.returned (cmdV (.slice none 0 0) ⟨1,tk,0,0,0,[]⟩)/\w.grownBy w' none:=by
 simp only [cmdV]
 have i0:=ix0
 have i1:=ix1
 have i2:=ix2
 go_enter Tryz.func95,Tryz.ntmps95
 go_wp2_with fail
 obtain ⟨W,hW,HW⟩:=al3 w #[.int .i64 1,.int .i64 tk,.int .i64 ss,.int .i64 nb,.int .i64 mk,.slice ao n cp] #[.int .i64 0,.int .i64 0,.int .i64 0,.int .i64 0,.int .i64 0,.slice none 0 0] #[.int .i64 1,.int .i64 0,.int .i64 0,.int .i64 0,.int .i64 0,.slice none 0 0] 32 32 32
 rw [hW]
 clear hW
 refine (dB w.heap.size (.slice ao n cp) ⟨1,tk,ss,nb,mk,l⟩ W HW.out.1 rfl).mono ?_
 rintro e w1 ⟨rfl,gg1⟩
 have H1:Hid (Blk w1 w.heap.size 32 #[.int .i64 1,.int .i64 tk,.int .i64 ss,.int .i64 nb,.int .i64 mk,.slice ao n cp]/\Blk w1 (w.heap.size+1) 32 #[.int .i64 0,.int .i64 0,.int .i64 0,.int .i64 0,.int .i64 0,.slice none 0 0]/\Blk w1 (w.heap.size+1+1) 32 #[.int .i64 1,.int .i64 0,.int .i64 0,.int .i64 0,.int .i64 0,.slice none 0 0]/\w.grownBy w1 none/\w.heap.size+3<=w1.heap.size) :=
  ⟨HW.out.1.grown gg1 (by simp),HW.out.2.1.grown gg1 (by simp),HW.out.2.2.1.grown gg1 (by simp),aa HW.out.2.2.2.1 gg1,by have:=gg1.size;have:=HW.out.2.2.2.2;omega⟩
 clear gg1 HW
 try unfold pt
 go_wp2_with fail
 obtain ⟨w2,hw2,H2⟩:=al1 w1 #[.pointer (some ⟨w.heap.size,1,none⟩),.pointer none,.pointer none] 129
 rw [hw2]
 clear hw2
 refine (dB (w.heap.size+1+1) (.slice none 0 0) ⟨1,0,0,0,0,[]⟩ w2 (H1.out.2.2.1.grown H2.out.2.1 (by simp)) rfl).mono ?_
 rintro e w3 ⟨rfl,gg3⟩
 have G3:Hid (w1.grownBy w3 none):=aa H2.out.2.1 gg3
 have H3:Hid (Blk w3 w.heap.size 32 #[.int .i64 1,.int .i64 tk,.int .i64 ss,.int .i64 nb,.int .i64 mk,.slice ao n cp]/\Blk w3 (w.heap.size+1) 32 #[.int .i64 0,.int .i64 0,.int .i64 0,.int .i64 0,.int .i64 0,.slice none 0 0]/\Blk w3 (w.heap.size+1+1) 32 #[.int .i64 1,.int .i64 0,.int .i64 0,.int .i64 0,.int .i64 0,.slice none 0 0]/\w.grownBy w3 none/\Blk w3 w1.heap.size 129 #[.pointer (some ⟨w.heap.size,1,none⟩),.pointer none,.pointer none]/\w.heap.size+3<=w1.heap.size) :=
  ⟨H1.out.1.grown G3.out (by simp),H1.out.2.1.grown G3.out (by simp),H1.out.2.2.1.grown G3.out (by simp),aa H1.out.2.2.2.1 G3.out,H2.out.1.grown gg3 (by simp),H1.out.2.2.2.2⟩
 clear gg3 G3 H1 H2
 try unfold pt
 go_wp2_with fail
 refine wp_loop_rounds 4 ?_
 rw [rounds_succ]
 have a0:=H3.out.1.cell 1
 have p0:=H3.out.2.2.2.2.1.cell 0
 have s0:=H3.out.2.2.1.cell 1
 have z0:=H3.out.2.2.1.free 1
 simp at a0 p0 s0
 go_wp2_with fail
 have H4:Hid (Blk (w3.setCell ⟨w.heap.size+1+1,1,none⟩ (.int .i64 tk)) w.heap.size 32 #[.int .i64 1,.int .i64 tk,.int .i64 ss,.int .i64 nb,.int .i64 mk,.slice ao n cp]/\Blk (w3.setCell ⟨w.heap.size+1+1,1,none⟩ (.int .i64 tk)) (w.heap.size+1) 32 #[.int .i64 0,.int .i64 0,.int .i64 0,.int .i64 0,.int .i64 0,.slice none 0 0]/\Blk (w3.setCell ⟨w.heap.size+1+1,1,none⟩ (.int .i64 tk)) (w.heap.size+1+1) 32 #[.int .i64 1,.int .i64 tk,.int .i64 0,.int .i64 0,.int .i64 0,.slice none 0 0]/\w.grownBy (w3.setCell ⟨w.heap.size+1+1,1,none⟩ (.int .i64 tk)) none/\Blk (w3.setCell ⟨w.heap.size+1+1,1,none⟩ (.int .i64 tk)) w1.heap.size 129 #[.pointer (some ⟨w.heap.size,1,none⟩),.pointer none,.pointer none]/\w.heap.size+3<=w1.heap.size):=by
  have hg:=ae w3 (w.heap.size+1+1) 1 (.int .i64 tk)
  have h6:=H3.out.2.2.2.2.2
  exact ⟨H3.out.1.grown hg (by simp;omega),H3.out.2.1.grown hg (by simp),H3.out.2.2.1.store 1 _,ah H3.out.2.2.2.1 hg (by intro x hx;simp at hx;omega),H3.out.2.2.2.2.1.grown hg (by simp;omega),h6⟩
 generalize w3.setCell ⟨w.heap.size+1+1,1,none⟩ (.int .i64 tk)=x0 at H4 ⊢
 clear H3 a0 p0 s0 z0
 have H3:=H4
 clear H4
 rw [rounds_succ]
 go_wp2_with fail
 rw [rounds_succ]
 go_wp2_with fail
 rw [rounds_succ]
 have a9:=H3.out.1.cell 0
 simp at a9
 have s0:=H3.out.2.2.1.cell 0
 have s1:=H3.out.2.2.1.cell 1
 have s2:=H3.out.2.2.1.cell 2
 have s3:=H3.out.2.2.1.cell 3
 have s4:=H3.out.2.2.1.cell 4
 have s5:=H3.out.2.2.1.cell 5
 have r0:=H3.out.2.1.cell 0
 have r1:=H3.out.2.1.cell 1
 have r2:=H3.out.2.1.cell 2
 have r3:=H3.out.2.1.cell 3
 have r4:=H3.out.2.1.cell 4
 have r5:=H3.out.2.1.cell 5
 have z0:=H3.out.2.1.free 0
 have z1:=H3.out.2.1.free 1
 have z2:=H3.out.2.1.free 2
 have z3:=H3.out.2.1.free 3
 have z4:=H3.out.2.1.free 4
 have z5:=H3.out.2.1.free 5
 simp at s0 s1 s2 s3 s4 s5 r0 r1 r2 r3 r4 r5
 go_wp2_with fail
 obtain ⟨W6,hW6,H6⟩:=set6 H3.out.2.1 (.int .i64 1) (.int .i64 tk) (.int .i64 0) (.int .i64 0) (.int .i64 0) (.slice none 0 0)
 rw [hW6]
 clear hW6
 have hg:w.grownBy W6 none:=ah H3.out.2.2.2.1 H6.out.2 (by intro x hx;simp at hx;omega)
 have y0:=H6.out.1.cell 0
 have y1:=H6.out.1.cell 1
 have y2:=H6.out.1.cell 2
 have y3:=H6.out.1.cell 3
 have y4:=H6.out.1.cell 4
 have y5:=H6.out.1.cell 5
 simp at y0 y1 y2 y3 y4 y5
 exact bodyPost_ret (v:=.agg #[.int .i64 1,.int .i64 tk,.int .i64 0,.int .i64 0,.int .i64 0,(.slice none 0 0)]) (by simp [results,Tryz.results95,go_sem,y0,y1,y2,y3,y4,y5]) rfl ⟨rfl,hg⟩
theorem pE (ao:Option Addr)(n cp:Nat)(tk ss nb mk:Int)(l:List POp)(w:World):Calls Tryz.prog 95 #[cmdV (.slice ao n cp) ⟨2,tk,ss,nb,mk,l⟩] w fun e w'=>e=.returned (cmdV (.slice ao n cp) ⟨2,0,ss,nb,mk,l⟩)/\w.grownBy w' none:=by
 simp only [cmdV]
 have i0:=ix0
 have i1:=ix1
 have i2:=ix2
 go_enter Tryz.func95,Tryz.ntmps95
 go_wp2_with fail
 obtain ⟨W,hW,HW⟩:=al3 w #[.int .i64 2,.int .i64 tk,.int .i64 ss,.int .i64 nb,.int .i64 mk,.slice ao n cp] #[.int .i64 0,.int .i64 0,.int .i64 0,.int .i64 0,.int .i64 0,.slice none 0 0] #[.int .i64 2,.int .i64 0,.int .i64 0,.int .i64 0,.int .i64 0,.slice none 0 0] 32 32 32
 rw [hW]
 clear hW
 refine (dD w.heap.size (.slice ao n cp) ⟨2,tk,ss,nb,mk,l⟩ W HW.out.1 rfl).mono ?_
 rintro e w1 ⟨rfl,gg1⟩
 have H1:Hid (Blk w1 w.heap.size 32 #[.int .i64 2,.int .i64 tk,.int .i64 ss,.int .i64 nb,.int .i64 mk,.slice ao n cp]/\Blk w1 (w.heap.size+1) 32 #[.int .i64 0,.int .i64 0,.int .i64 0,.int .i64 0,.int .i64 0,.slice none 0 0]/\Blk w1 (w.heap.size+1+1) 32 #[.int .i64 2,.int .i64 0,.int .i64 0,.int .i64 0,.int .i64 0,.slice none 0 0]/\w.grownBy w1 none/\w.heap.size+3<=w1.heap.size) :=
  ⟨HW.out.1.grown gg1 (by simp),HW.out.2.1.grown gg1 (by simp),HW.out.2.2.1.grown gg1 (by simp),aa HW.out.2.2.2.1 gg1,by have:=gg1.size;have:=HW.out.2.2.2.2;omega⟩
 clear gg1 HW
 try unfold pt
 go_wp2_with fail
 obtain ⟨w2,hw2,H2⟩:=al1 w1 #[.pointer (some ⟨w.heap.size,2,none⟩),.pointer (some ⟨w.heap.size,3,none⟩),.pointer (some ⟨w.heap.size,4,none⟩)] 129
 rw [hw2]
 clear hw2
 refine (dD (w.heap.size+1+1) (.slice none 0 0) ⟨2,0,0,0,0,[]⟩ w2 (H1.out.2.2.1.grown H2.out.2.1 (by simp)) rfl).mono ?_
 rintro e w3 ⟨rfl,gg3⟩
 have G3:Hid (w1.grownBy w3 none):=aa H2.out.2.1 gg3
 have H3:Hid (Blk w3 w.heap.size 32 #[.int .i64 2,.int .i64 tk,.int .i64 ss,.int .i64 nb,.int .i64 mk,.slice ao n cp]/\Blk w3 (w.heap.size+1) 32 #[.int .i64 0,.int .i64 0,.int .i64 0,.int .i64 0,.int .i64 0,.slice none 0 0]/\Blk w3 (w.heap.size+1+1) 32 #[.int .i64 2,.int .i64 0,.int .i64 0,.int .i64 0,.int .i64 0,.slice none 0 0]/\w.grownBy w3 none/\Blk w3 w1.heap.size 129 #[.pointer (some ⟨w.heap.size,2,none⟩),.pointer (some ⟨w.heap.size,3,none⟩),.pointer (some ⟨w.heap.size,4,none⟩)]/\w.heap.size+3<=w1.heap.size) :=
  ⟨H1.out.1.grown G3.out (by simp),H1.out.2.1.grown G3.out (by simp),H1.out.2.2.1.grown G3.out (by simp),aa H1.out.2.2.2.1 G3.out,H2.out.1.grown gg3 (by simp),H1.out.2.2.2.2⟩
 clear gg3 G3 H1 H2
 try unfold pt
 go_wp2_with fail
 refine wp_loop_rounds 4 ?_
 rw [rounds_succ]
 have a0:=H3.out.1.cell 2
 have p0:=H3.out.2.2.2.2.1.cell 0
 have s0:=H3.out.2.2.1.cell 2
 have z0:=H3.out.2.2.1.free 2
 simp at a0 p0 s0
 go_wp2_with fail
 have H4:Hid (Blk (w3.setCell ⟨w.heap.size+1+1,2,none⟩ (.int .i64 ss)) w.heap.size 32 #[.int .i64 2,.int .i64 tk,.int .i64 ss,.int .i64 nb,.int .i64 mk,.slice ao n cp]/\Blk (w3.setCell ⟨w.heap.size+1+1,2,none⟩ (.int .i64 ss)) (w.heap.size+1) 32 #[.int .i64 0,.int .i64 0,.int .i64 0,.int .i64 0,.int .i64 0,.slice none 0 0]/\Blk (w3.setCell ⟨w.heap.size+1+1,2,none⟩ (.int .i64 ss)) (w.heap.size+1+1) 32 #[.int .i64 2,.int .i64 0,.int .i64 ss,.int .i64 0,.int .i64 0,.slice none 0 0]/\w.grownBy (w3.setCell ⟨w.heap.size+1+1,2,none⟩ (.int .i64 ss)) none/\Blk (w3.setCell ⟨w.heap.size+1+1,2,none⟩ (.int .i64 ss)) w1.heap.size 129 #[.pointer (some ⟨w.heap.size,2,none⟩),.pointer (some ⟨w.heap.size,3,none⟩),.pointer (some ⟨w.heap.size,4,none⟩)]/\w.heap.size+3<=w1.heap.size):=by
  have hg:=ae w3 (w.heap.size+1+1) 2 (.int .i64 ss)
  have h6:=H3.out.2.2.2.2.2
  exact ⟨H3.out.1.grown hg (by simp;omega),H3.out.2.1.grown hg (by simp),H3.out.2.2.1.store 2 _,ah H3.out.2.2.2.1 hg (by intro x hx;simp at hx;omega),H3.out.2.2.2.2.1.grown hg (by simp;omega),h6⟩
 generalize w3.setCell ⟨w.heap.size+1+1,2,none⟩ (.int .i64 ss)=x0 at H4 ⊢
 clear H3 a0 p0 s0 z0
 have H3:=H4
 clear H4
 rw [rounds_succ]
 have a1:=H3.out.1.cell 3
 have p1:=H3.out.2.2.2.2.1.cell 1
 have s1:=H3.out.2.2.1.cell 3
 have z1:=H3.out.2.2.1.free 3
 simp at a1 p1 s1
 go_wp2_with fail
 have H4:Hid (Blk (x0.setCell ⟨w.heap.size+1+1,3,none⟩ (.int .i64 nb)) w.heap.size 32 #[.int .i64 2,.int .i64 tk,.int .i64 ss,.int .i64 nb,.int .i64 mk,.slice ao n cp]/\Blk (x0.setCell ⟨w.heap.size+1+1,3,none⟩ (.int .i64 nb)) (w.heap.size+1) 32 #[.int .i64 0,.int .i64 0,.int .i64 0,.int .i64 0,.int .i64 0,.slice none 0 0]/\Blk (x0.setCell ⟨w.heap.size+1+1,3,none⟩ (.int .i64 nb)) (w.heap.size+1+1) 32 #[.int .i64 2,.int .i64 0,.int .i64 ss,.int .i64 nb,.int .i64 0,.slice none 0 0]/\w.grownBy (x0.setCell ⟨w.heap.size+1+1,3,none⟩ (.int .i64 nb)) none/\Blk (x0.setCell ⟨w.heap.size+1+1,3,none⟩ (.int .i64 nb)) w1.heap.size 129 #[.pointer (some ⟨w.heap.size,2,none⟩),.pointer (some ⟨w.heap.size,3,none⟩),.pointer (some ⟨w.heap.size,4,none⟩)]/\w.heap.size+3<=w1.heap.size):=by
  have hg:=ae x0 (w.heap.size+1+1) 3 (.int .i64 nb)
  have h6:=H3.out.2.2.2.2.2
  exact ⟨H3.out.1.grown hg (by simp;omega),H3.out.2.1.grown hg (by simp),H3.out.2.2.1.store 3 _,ah H3.out.2.2.2.1 hg (by intro x hx;simp at hx;omega),H3.out.2.2.2.2.1.grown hg (by simp;omega),h6⟩
 generalize x0.setCell ⟨w.heap.size+1+1,3,none⟩ (.int .i64 nb)=x1 at H4 ⊢
 clear H3 a1 p1 s1 z1
 have H3:=H4
 clear H4
 rw [rounds_succ]
 have a2:=H3.out.1.cell 4
 have p2:=H3.out.2.2.2.2.1.cell 2
 have s2:=H3.out.2.2.1.cell 4
 have z2:=H3.out.2.2.1.free 4
 simp at a2 p2 s2
 go_wp2_with fail
 have H4:Hid (Blk (x1.setCell ⟨w.heap.size+1+1,4,none⟩ (.int .i64 mk)) w.heap.size 32 #[.int .i64 2,.int .i64 tk,.int .i64 ss,.int .i64 nb,.int .i64 mk,.slice ao n cp]/\Blk (x1.setCell ⟨w.heap.size+1+1,4,none⟩ (.int .i64 mk)) (w.heap.size+1) 32 #[.int .i64 0,.int .i64 0,.int .i64 0,.int .i64 0,.int .i64 0,.slice none 0 0]/\Blk (x1.setCell ⟨w.heap.size+1+1,4,none⟩ (.int .i64 mk)) (w.heap.size+1+1) 32 #[.int .i64 2,.int .i64 0,.int .i64 ss,.int .i64 nb,.int .i64 mk,.slice none 0 0]/\w.grownBy (x1.setCell ⟨w.heap.size+1+1,4,none⟩ (.int .i64 mk)) none/\Blk (x1.setCell ⟨w.heap.size+1+1,4,none⟩ (.int .i64 mk)) w1.heap.size 129 #[.pointer (some ⟨w.heap.size,2,none⟩),.pointer (some ⟨w.heap.size,3,none⟩),.pointer (some ⟨w.heap.size,4,none⟩)]/\w.heap.size+3<=w1.heap.size):=by
  have hg:=ae x1 (w.heap.size+1+1) 4 (.int .i64 mk)
  have h6:=H3.out.2.2.2.2.2
  exact ⟨H3.out.1.grown hg (by simp;omega),H3.out.2.1.grown hg (by simp),H3.out.2.2.1.store 4 _,ah H3.out.2.2.2.1 hg (by intro x hx;simp at hx;omega),H3.out.2.2.2.2.1.grown hg (by simp;omega),h6⟩
 generalize x1.setCell ⟨w.heap.size+1+1,4,none⟩ (.int .i64 mk)=x2 at H4 ⊢
 clear H3 a2 p2 s2 z2
 have H3:=H4
 clear H4
 rw [rounds_succ]
 have a9:=H3.out.1.cell 0
 have a8:=H3.out.1.cell 5
 have s9:=H3.out.2.2.1.cell 5
 have z9:=H3.out.2.2.1.free 5
 simp at a9 a8 s9
 go_upto_region 11 with fail
 have H4:Hid (Blk (x2.setCell ⟨w.heap.size+1+1,5,none⟩ (.slice ao n cp)) (w.heap.size+1) 32 #[.int .i64 0,.int .i64 0,.int .i64 0,.int .i64 0,.int .i64 0,.slice none 0 0]/\Blk (x2.setCell ⟨w.heap.size+1+1,5,none⟩ (.slice ao n cp)) (w.heap.size+1+1) 32 #[.int .i64 2,.int .i64 0,.int .i64 ss,.int .i64 nb,.int .i64 mk,.slice ao n cp]/\w.grownBy (x2.setCell ⟨w.heap.size+1+1,5,none⟩ (.slice ao n cp)) none):=by
  have hg:=ae x2 (w.heap.size+1+1) 5 (.slice ao n cp)
  exact ⟨H3.out.2.1.grown hg (by simp),H3.out.2.2.1.store 5 _,ah H3.out.2.2.2.1 hg (by intro x hx;simp at hx;omega)⟩
 generalize x2.setCell ⟨w.heap.size+1+1,5,none⟩ (.slice ao n cp)=x9 at H4 ⊢
 clear H3 a9 a8 s9 z9
 have H3:Hid (True/\Blk x9 (w.heap.size+1) 32 #[.int .i64 0,.int .i64 0,.int .i64 0,.int .i64 0,.int .i64 0,.slice none 0 0]/\Blk x9 (w.heap.size+1+1) 32 #[.int .i64 2,.int .i64 0,.int .i64 ss,.int .i64 nb,.int .i64 mk,.slice ao n cp]/\w.grownBy x9 none/\True):=⟨trivial,H4.out.1,H4.out.2.1,H4.out.2.2,trivial⟩
 clear H4
 have s0:=H3.out.2.2.1.cell 0
 have s1:=H3.out.2.2.1.cell 1
 have s2:=H3.out.2.2.1.cell 2
 have s3:=H3.out.2.2.1.cell 3
 have s4:=H3.out.2.2.1.cell 4
 have s5:=H3.out.2.2.1.cell 5
 have r0:=H3.out.2.1.cell 0
 have r1:=H3.out.2.1.cell 1
 have r2:=H3.out.2.1.cell 2
 have r3:=H3.out.2.1.cell 3
 have r4:=H3.out.2.1.cell 4
 have r5:=H3.out.2.1.cell 5
 have z0:=H3.out.2.1.free 0
 have z1:=H3.out.2.1.free 1
 have z2:=H3.out.2.1.free 2
 have z3:=H3.out.2.1.free 3
 have z4:=H3.out.2.1.free 4
 have z5:=H3.out.2.1.free 5
 simp at s0 s1 s2 s3 s4 s5 r0 r1 r2 r3 r4 r5
 go_wp2_with fail
 obtain ⟨W6,hW6,H6⟩:=set6 H3.out.2.1 (.int .i64 2) (.int .i64 0) (.int .i64 ss) (.int .i64 nb) (.int .i64 mk) (.slice ao n cp)
 rw [hW6]
 clear hW6
 have hg:w.grownBy W6 none:=ah H3.out.2.2.2.1 H6.out.2 (by intro x hx;simp at hx;omega)
 have y0:=H6.out.1.cell 0
 have y1:=H6.out.1.cell 1
 have y2:=H6.out.1.cell 2
 have y3:=H6.out.1.cell 3
 have y4:=H6.out.1.cell 4
 have y5:=H6.out.1.cell 5
 simp at y0 y1 y2 y3 y4 y5
 exact bodyPost_ret (v:=.agg #[.int .i64 2,.int .i64 0,.int .i64 ss,.int .i64 nb,.int .i64 mk,(.slice ao n cp)]) (by simp [results,Tryz.results95,go_sem,y0,y1,y2,y3,y4,y5]) rfl ⟨rfl,hg⟩
theorem jf (k:Int)(hk34:k=3\/k=4)(ao:Option Addr)(n cp:Nat)(tk ss nb mk:Int)(l:List POp)(w:World):Calls Tryz.prog 95 #[cmdV (.slice ao n cp) ⟨k,tk,ss,nb,mk,l⟩] w fun e w'=>e=.returned (cmdV (.slice none 0 0) ⟨k,0,ss,0,0,[]⟩)/\w.grownBy w' none:=by
 have HK:Hid (k=3\/k=4):=hk34
 have k1:(k==1)=false:=by simp;omega
 have k2:(k==2)=false:=by simp;omega
 have k3:(k=1)=False:=eq_false (by omega)
 have k4:(k=2)=False:=eq_false (by omega)
 clear hk34
 simp only [cmdV]
 have i0:=ix0
 have i1:=ix1
 have i2:=ix2
 go_enter Tryz.func95,Tryz.ntmps95
 go_wp2_with fail
 obtain ⟨W,hW,HW⟩:=al3 w #[.int .i64 k,.int .i64 tk,.int .i64 ss,.int .i64 nb,.int .i64 mk,.slice ao n cp] #[.int .i64 0,.int .i64 0,.int .i64 0,.int .i64 0,.int .i64 0,.slice none 0 0] #[.int .i64 k,.int .i64 0,.int .i64 0,.int .i64 0,.int .i64 0,.slice none 0 0] 32 32 32
 rw [hW]
 clear hW
 refine (fa w.heap.size (.slice ao n cp) ⟨k,tk,ss,nb,mk,l⟩ W HW.out.1 HK.out).mono ?_
 rintro e w1 ⟨rfl,gg1⟩
 have H1:Hid (Blk w1 w.heap.size 32 #[.int .i64 k,.int .i64 tk,.int .i64 ss,.int .i64 nb,.int .i64 mk,.slice ao n cp]/\Blk w1 (w.heap.size+1) 32 #[.int .i64 0,.int .i64 0,.int .i64 0,.int .i64 0,.int .i64 0,.slice none 0 0]/\Blk w1 (w.heap.size+1+1) 32 #[.int .i64 k,.int .i64 0,.int .i64 0,.int .i64 0,.int .i64 0,.slice none 0 0]/\w.grownBy w1 none/\w.heap.size+3<=w1.heap.size) :=
  ⟨HW.out.1.grown gg1 (by simp),HW.out.2.1.grown gg1 (by simp),HW.out.2.2.1.grown gg1 (by simp),aa HW.out.2.2.2.1 gg1,by have:=gg1.size;have:=HW.out.2.2.2.2;omega⟩
 clear gg1 HW
 try unfold pt
 go_wp2_with fail
 obtain ⟨w2,hw2,H2⟩:=al1 w1 #[.pointer (some ⟨w.heap.size,2,none⟩),.pointer none,.pointer none] 129
 rw [hw2]
 clear hw2
 refine (fa (w.heap.size+1+1) (.slice none 0 0) ⟨k,0,0,0,0,[]⟩ w2 (H1.out.2.2.1.grown H2.out.2.1 (by simp)) HK.out).mono ?_
 rintro e w3 ⟨rfl,gg3⟩
 have G3:Hid (w1.grownBy w3 none):=aa H2.out.2.1 gg3
 have H3:Hid (Blk w3 w.heap.size 32 #[.int .i64 k,.int .i64 tk,.int .i64 ss,.int .i64 nb,.int .i64 mk,.slice ao n cp]/\Blk w3 (w.heap.size+1) 32 #[.int .i64 0,.int .i64 0,.int .i64 0,.int .i64 0,.int .i64 0,.slice none 0 0]/\Blk w3 (w.heap.size+1+1) 32 #[.int .i64 k,.int .i64 0,.int .i64 0,.int .i64 0,.int .i64 0,.slice none 0 0]/\w.grownBy w3 none/\Blk w3 w1.heap.size 129 #[.pointer (some ⟨w.heap.size,2,none⟩),.pointer none,.pointer none]/\w.heap.size+3<=w1.heap.size) :=
  ⟨H1.out.1.grown G3.out (by simp),H1.out.2.1.grown G3.out (by simp),H1.out.2.2.1.grown G3.out (by simp),aa H1.out.2.2.2.1 G3.out,H2.out.1.grown gg3 (by simp),H1.out.2.2.2.2⟩
 clear gg3 G3 H1 H2
 try unfold pt
 go_wp2_with fail
 refine wp_loop_rounds 4 ?_
 rw [rounds_succ]
 have a0:=H3.out.1.cell 2
 have p0:=H3.out.2.2.2.2.1.cell 0
 have s0:=H3.out.2.2.1.cell 2
 have z0:=H3.out.2.2.1.free 2
 simp at a0 p0 s0
 go_wp2_with fail
 have H4:Hid (Blk (w3.setCell ⟨w.heap.size+1+1,2,none⟩ (.int .i64 ss)) w.heap.size 32 #[.int .i64 k,.int .i64 tk,.int .i64 ss,.int .i64 nb,.int .i64 mk,.slice ao n cp]/\Blk (w3.setCell ⟨w.heap.size+1+1,2,none⟩ (.int .i64 ss)) (w.heap.size+1) 32 #[.int .i64 0,.int .i64 0,.int .i64 0,.int .i64 0,.int .i64 0,.slice none 0 0]/\Blk (w3.setCell ⟨w.heap.size+1+1,2,none⟩ (.int .i64 ss)) (w.heap.size+1+1) 32 #[.int .i64 k,.int .i64 0,.int .i64 ss,.int .i64 0,.int .i64 0,.slice none 0 0]/\w.grownBy (w3.setCell ⟨w.heap.size+1+1,2,none⟩ (.int .i64 ss)) none/\Blk (w3.setCell ⟨w.heap.size+1+1,2,none⟩ (.int .i64 ss)) w1.heap.size 129 #[.pointer (some ⟨w.heap.size,2,none⟩),.pointer none,.pointer none]/\w.heap.size+3<=w1.heap.size):=by
  have hg:=ae w3 (w.heap.size+1+1) 2 (.int .i64 ss)
  have h6:=H3.out.2.2.2.2.2
  exact ⟨H3.out.1.grown hg (by simp;omega),H3.out.2.1.grown hg (by simp),H3.out.2.2.1.store 2 _,ah H3.out.2.2.2.1 hg (by intro x hx;simp at hx;omega),H3.out.2.2.2.2.1.grown hg (by simp;omega),h6⟩
 generalize w3.setCell ⟨w.heap.size+1+1,2,none⟩ (.int .i64 ss)=x0 at H4 ⊢
 clear H3 a0 p0 s0 z0
 have H3:=H4
 clear H4
 rw [rounds_succ]
 go_wp2_with fail
 rw [rounds_succ]
 go_wp2_with fail
 rw [rounds_succ]
 have a9:=H3.out.1.cell 0
 simp at a9
 have s0:=H3.out.2.2.1.cell 0
 have s1:=H3.out.2.2.1.cell 1
 have s2:=H3.out.2.2.1.cell 2
 have s3:=H3.out.2.2.1.cell 3
 have s4:=H3.out.2.2.1.cell 4
 have s5:=H3.out.2.2.1.cell 5
 have r0:=H3.out.2.1.cell 0
 have r1:=H3.out.2.1.cell 1
 have r2:=H3.out.2.1.cell 2
 have r3:=H3.out.2.1.cell 3
 have r4:=H3.out.2.1.cell 4
 have r5:=H3.out.2.1.cell 5
 have z0:=H3.out.2.1.free 0
 have z1:=H3.out.2.1.free 1
 have z2:=H3.out.2.1.free 2
 have z3:=H3.out.2.1.free 3
 have z4:=H3.out.2.1.free 4
 have z5:=H3.out.2.1.free 5
 simp at s0 s1 s2 s3 s4 s5 r0 r1 r2 r3 r4 r5
 go_wp2_with fail
 obtain ⟨W6,hW6,H6⟩:=set6 H3.out.2.1 (.int .i64 k) (.int .i64 0) (.int .i64 ss) (.int .i64 0) (.int .i64 0) (.slice none 0 0)
 rw [hW6]
 clear hW6
 have hg:w.grownBy W6 none:=ah H3.out.2.2.2.1 H6.out.2 (by intro x hx;simp at hx;omega)
 have y0:=H6.out.1.cell 0
 have y1:=H6.out.1.cell 1
 have y2:=H6.out.1.cell 2
 have y3:=H6.out.1.cell 3
 have y4:=H6.out.1.cell 4
 have y5:=H6.out.1.cell 5
 simp at y0 y1 y2 y3 y4 y5
 exact bodyPost_ret (v:=.agg #[.int .i64 k,.int .i64 0,.int .i64 ss,.int .i64 0,.int .i64 0,(.slice none 0 0)]) (by simp [results,Tryz.results95,go_sem,y0,y1,y2,y3,y4,y5]) rfl ⟨rfl,hg⟩
theorem pF (ao:Option Addr)(n cp:Nat)(k:Int)(tk ss nb mk:Int)(l:List POp)(w:World)(h1:(k==1)=false)(h2:(k==2)=false)(h3:(k==3)=false)(h4:(k==4)=false):Calls Tryz.prog 95 #[cmdV (.slice ao n cp) ⟨k,tk,ss,nb,mk,l⟩] w fun e w'=>e=.returned (cmdV (.slice none 0 0) ⟨k,0,0,0,0,[]⟩)/\w.grownBy w' none:=by
 simp only [cmdV]
 have i0:=ix0
 have i1:=ix1
 have i2:=ix2
 go_enter Tryz.func95,Tryz.ntmps95
 go_wp2_with fail
 obtain ⟨W,hW,HW⟩:=al3 w #[.int .i64 k,.int .i64 tk,.int .i64 ss,.int .i64 nb,.int .i64 mk,.slice ao n cp] #[.int .i64 0,.int .i64 0,.int .i64 0,.int .i64 0,.int .i64 0,.slice none 0 0] #[.int .i64 k,.int .i64 0,.int .i64 0,.int .i64 0,.int .i64 0,.slice none 0 0] 32 32 32
 rw [hW]
 clear hW
 refine (eh w.heap.size (.slice ao n cp) ⟨k,tk,ss,nb,mk,l⟩ W HW.out.1 h1 h2 h3 h4).mono ?_
 rintro e w1 ⟨rfl,gg1⟩
 have H1:Hid (Blk w1 w.heap.size 32 #[.int .i64 k,.int .i64 tk,.int .i64 ss,.int .i64 nb,.int .i64 mk,.slice ao n cp]/\Blk w1 (w.heap.size+1) 32 #[.int .i64 0,.int .i64 0,.int .i64 0,.int .i64 0,.int .i64 0,.slice none 0 0]/\Blk w1 (w.heap.size+1+1) 32 #[.int .i64 k,.int .i64 0,.int .i64 0,.int .i64 0,.int .i64 0,.slice none 0 0]/\w.grownBy w1 none/\w.heap.size+3<=w1.heap.size) :=
  ⟨HW.out.1.grown gg1 (by simp),HW.out.2.1.grown gg1 (by simp),HW.out.2.2.1.grown gg1 (by simp),aa HW.out.2.2.2.1 gg1,by have:=gg1.size;have:=HW.out.2.2.2.2;omega⟩
 clear gg1 HW
 try unfold pt
 go_wp2_with fail
 obtain ⟨w2,hw2,H2⟩:=al1 w1 #[.pointer none,.pointer none,.pointer none] 129
 rw [hw2]
 clear hw2
 refine (eh (w.heap.size+1+1) (.slice none 0 0) ⟨k,0,0,0,0,[]⟩ w2 (H1.out.2.2.1.grown H2.out.2.1 (by simp)) h1 h2 h3 h4).mono ?_
 rintro e w3 ⟨rfl,gg3⟩
 have G3:Hid (w1.grownBy w3 none):=aa H2.out.2.1 gg3
 have H3:Hid (Blk w3 w.heap.size 32 #[.int .i64 k,.int .i64 tk,.int .i64 ss,.int .i64 nb,.int .i64 mk,.slice ao n cp]/\Blk w3 (w.heap.size+1) 32 #[.int .i64 0,.int .i64 0,.int .i64 0,.int .i64 0,.int .i64 0,.slice none 0 0]/\Blk w3 (w.heap.size+1+1) 32 #[.int .i64 k,.int .i64 0,.int .i64 0,.int .i64 0,.int .i64 0,.slice none 0 0]/\w.grownBy w3 none/\Blk w3 w1.heap.size 129 #[.pointer none,.pointer none,.pointer none]/\w.heap.size+3<=w1.heap.size) :=
  ⟨H1.out.1.grown G3.out (by simp),H1.out.2.1.grown G3.out (by simp),H1.out.2.2.1.grown G3.out (by simp),aa H1.out.2.2.2.1 G3.out,H2.out.1.grown gg3 (by simp),H1.out.2.2.2.2⟩
 clear gg3 G3 H1 H2
 try unfold pt
 go_wp2_with fail
 refine wp_loop_rounds 4 ?_
 rw [rounds_succ]
 go_wp2_with fail
 rw [rounds_succ]
 go_wp2_with fail
 rw [rounds_succ]
 go_wp2_with fail
 rw [rounds_succ]
 have a9:=H3.out.1.cell 0
 simp at a9
 have s0:=H3.out.2.2.1.cell 0
 have s1:=H3.out.2.2.1.cell 1
 have s2:=H3.out.2.2.1.cell 2
 have s3:=H3.out.2.2.1.cell 3
 have s4:=H3.out.2.2.1.cell 4
 have s5:=H3.out.2.2.1.cell 5
 have r0:=H3.out.2.1.cell 0
 have r1:=H3.out.2.1.cell 1
 have r2:=H3.out.2.1.cell 2
 have r3:=H3.out.2.1.cell 3
 have r4:=H3.out.2.1.cell 4
 have r5:=H3.out.2.1.cell 5
 have z0:=H3.out.2.1.free 0
 have z1:=H3.out.2.1.free 1
 have z2:=H3.out.2.1.free 2
 have z3:=H3.out.2.1.free 3
 have z4:=H3.out.2.1.free 4
 have z5:=H3.out.2.1.free 5
 simp at s0 s1 s2 s3 s4 s5 r0 r1 r2 r3 r4 r5
 go_wp2_with fail
 obtain ⟨W6,hW6,H6⟩:=set6 H3.out.2.1 (.int .i64 k) (.int .i64 0) (.int .i64 0) (.int .i64 0) (.int .i64 0) (.slice none 0 0)
 rw [hW6]
 clear hW6
 have hg:w.grownBy W6 none:=ah H3.out.2.2.2.1 H6.out.2 (by intro x hx;simp at hx;omega)
 have y0:=H6.out.1.cell 0
 have y1:=H6.out.1.cell 1
 have y2:=H6.out.1.cell 2
 have y3:=H6.out.1.cell 3
 have y4:=H6.out.1.cell 4
 have y5:=H6.out.1.cell 5
 simp at y0 y1 y2 y3 y4 y5
 exact bodyPost_ret (v:=.agg #[.int .i64 k,.int .i64 0,.int .i64 0,.int .i64 0,.int .i64 0,(.slice none 0 0)]) (by simp [results,Tryz.results95,go_sem,y0,y1,y2,y3,y4,y5]) rfl ⟨rfl,hg⟩
def novV (ov:Value)(c:PCmd):Value:=if c.kind=2 then ov else .slice none 0 0
theorem fV (w:World):Ops w (.slice none 0 0) []:=⟨none,0,rfl,by simp,fun j hj=>absurd hj (by simp)⟩
theorem kQ {w:World}{ov:Value}{c:PCmd}(h:Ops w ov c.ops):Ops w (novV ov c) (cV c).ops:=by
 unfold novV cV
 by_cases h2:c.kind=2
 ·rw [if_pos h2,if_neg (by omega),if_pos h2];exact h
 ·rw [if_neg h2]
  by_cases h1:c.kind=1
  ·rw [if_pos h1];exact fV w
  ·rw [if_neg h1,if_neg h2]
   split <;> exact fV w
theorem kR (ov:Value)(c:PCmd)(w:World)(h:Ops w ov c.ops):Calls Tryz.prog 95 #[cmdV ov c] w fun e w'=>e=.returned (cmdV (novV ov c) (cV c))/\w.grownBy w' none:=by
 obtain ⟨ao,n,cp,rfl,_⟩:=aX h
 obtain ⟨k,tk,ss,nb,mk,l⟩:=c
 unfold novV cV
 by_cases h1:k=1
 ·subst h1;exact pD ao n cp tk ss nb mk l w
 ·by_cases h2:k=2
  ·subst h2;exact pE ao n cp tk ss nb mk l w
  ·by_cases h3:k=3
   ·subst h3;exact jf 3 (.inl rfl) ao n cp tk ss nb mk l w
   ·by_cases h4:k=4
    ·subst h4;exact jf 4 (.inr rfl) ao n cp tk ss nb mk l w
    ·rw [if_neg h2,if_neg h1,if_neg h2,if_neg (by simp;omega)]
     exact pF ao n cp k tk ss nb mk l w (by simp [h1]) (by simp [h2]) (by simp [h3]) (by simp [h4])
theorem qX (ao:Option Addr)(n cp:Nat)(tk ss nb mk:Int)(l:List POp)(w:World)(hl:Ops w (.slice ao n cp) l):Calls Tryz.prog 67 #[cmdV (.slice ao n cp) (⟨1,tk,ss,nb,mk,l⟩:PCmd)] w fun e w'=>e=.returned (.bool (decide (1<=tk) && decide ((⟨1,tk,ss,nb,mk,l⟩:PCmd)=cV (⟨1,tk,ss,nb,mk,l⟩:PCmd))))/\w.grownBy w' none:=by
 have HL:Hid (Ops w (.slice ao n cp) l):=hl
 clear hl
 simp only [cmdV]
 have i0:=ix0
 go_enter Tryz.func67,Tryz.ntmps67
 go_wp2_with fail
 obtain ⟨W,hW,HW⟩:=al1 w #[.int .i64 1,.int .i64 tk,.int .i64 ss,.int .i64 nb,.int .i64 mk,.slice ao n cp] 32
 rw [hW]
 clear hW
 refine (dB w.heap.size (.slice ao n cp) (⟨1,tk,ss,nb,mk,l⟩:PCmd) W HW.out.1 rfl).mono ?_
 rintro e w1 ⟨rfl,gg1⟩
 have H1:Hid (Blk w1 w.heap.size 32 #[.int .i64 1,.int .i64 tk,.int .i64 ss,.int .i64 nb,.int .i64 mk,.slice ao n cp]/\w.grownBy w1 none):=⟨HW.out.1.grown gg1 (by simp),aa HW.out.2.1 gg1⟩
 clear gg1 HW
 try unfold pt
 have c0:=H1.out.1.cell 0
 have c1:=H1.out.1.cell 1
 have c3:=H1.out.1.cell 3
 have c4:=H1.out.1.cell 4
 simp at c0 c1 c3 c4
 by_cases hi:tk<1
 ·have q:(tk<1)=True:=by simp [hi]
  have N:Hid (tk<1):=hi
  clear hi
  go_wp2_with fail
  go_ret
  refine ⟨?_,H1.out.2⟩
  have:¬(1<=tk):=by have:=N.out;omega
  simp [this]
 have q:(tk<1)=False:=by simp;omega
 have N:Hid (1<=tk):=by unfold Hid;omega
 clear hi
 go_wp2_with fail
 have HC:Hid (∀y:World,w1.grownBy y none->y.cell? ⟨w.heap.size,0,none⟩=some (.int .i64 1)/\y.cell? ⟨w.heap.size,1,none⟩=some (.int .i64 tk)/\y.cell? ⟨w.heap.size,2,none⟩=some (.int .i64 ss)/\y.cell? ⟨w.heap.size,3,none⟩=some (.int .i64 nb)/\y.cell? ⟨w.heap.size,4,none⟩=some (.int .i64 mk)/\y.cell? ⟨w.heap.size,5,none⟩=some (.slice ao n cp)):=fun y hy=>by
  have hb:=H1.out.1.grown hy (by simp)
  exact ⟨hb.cell 0,hb.cell 1,hb.cell 2,hb.cell 3,hb.cell 4,hb.cell 5⟩
 clear c0 c1 c3 c4 i0
 refine wp_region_noPanic ?_
 refine am 1000 (fun y=>w1.grownBy y none) (by kernel_rfl) ?_
 have G0:Hid (w1.grownBy w1.drew none):=af _ _
 generalize w1.drew=wd at G0 ⊢
 have J:Idx [0,1]:=trivial
 iterate 2 (refine tK J (G0.out) rfl rfl (fun wk hk=>by obtain ⟨m0,m1,m2,m3,m4,m5⟩:=HC.out wk hk;go_simp;try rfl) ?_;replace J:=J.tl;try simp only [pN])
 refine wO 2 rfl fun K hK=>?_
 go_wp2_with fail
 refine (kR (.slice ao n cp) (⟨1,tk,ss,nb,mk,l⟩:PCmd) wd ((HL.out.grown H1.out.2).grown G0.out)).mono ?_
 rintro e w2 ⟨rfl,g2'⟩
 have G2:Hid (w1.grownBy w2 none):=aa G0.out g2'
 clear g2'
 unfold cmdV
 go_wp2_with fail
 refine hK.out _ _ (fun _=>G2.out) ?_
 clear hK K
 try simp only [pN]
 refine wO 3 rfl fun K hK=>?_
 go_wp2_with fail
 refine (nw (.slice ao n cp) (novV (.slice ao n cp) (⟨1,tk,ss,nb,mk,l⟩:PCmd)) (⟨1,tk,ss,nb,mk,l⟩:PCmd) (cV (⟨1,tk,ss,nb,mk,l⟩:PCmd)) w2 ((HL.out.grown H1.out.2).grown G2.out) (kQ (c:=(⟨1,tk,ss,nb,mk,l⟩:PCmd)) ((HL.out.grown H1.out.2).grown G2.out))).mono ?_
 rintro e w3 ⟨rfl,g3'⟩
 have G3:Hid (w1.grownBy w3 none):=aa G2.out g3'
 clear g3'
 go_wp2_with fail
 refine hK.out _ _ (fun _=>G3.out) ?_
 clear hK K
 try simp only [pN]
 refine tS 4 (G3.out) rfl rfl (fun wk hk=>by obtain ⟨m0,m1,m2,m3,m4,m5⟩:=HC.out wk hk;go_simp;try rfl) ?_
 try simp only [pN]
 refine wD ?_
 refine (‹∀(a:Act) (w:World),Code.wp Tryz.prog _ _ a w->_› _ _ ?_)
 go_wp2_with fail
 go_ret
 refine ⟨?_,aa H1.out.2 G3.out⟩
 have:=N.out;simp [this]
theorem qY (ao:Option Addr)(n cp:Nat)(tk ss nb mk:Int)(l:List POp)(w:World)(hl:Ops w (.slice ao n cp) l):Calls Tryz.prog 67 #[cmdV (.slice ao n cp) (⟨2,tk,ss,nb,mk,l⟩:PCmd)] w fun e w'=>e=.returned (.bool (decide (1<=ss) && decide (0<=mk/\mk<nb) && decide ((⟨2,tk,ss,nb,mk,l⟩:PCmd)=cV (⟨2,tk,ss,nb,mk,l⟩:PCmd))))/\w.grownBy w' none:=by
 have HL:Hid (Ops w (.slice ao n cp) l):=hl
 clear hl
 simp only [cmdV]
 have i0:=ix0
 go_enter Tryz.func67,Tryz.ntmps67
 go_wp2_with fail
 obtain ⟨W,hW,HW⟩:=al1 w #[.int .i64 2,.int .i64 tk,.int .i64 ss,.int .i64 nb,.int .i64 mk,.slice ao n cp] 32
 rw [hW]
 clear hW
 refine (dD w.heap.size (.slice ao n cp) (⟨2,tk,ss,nb,mk,l⟩:PCmd) W HW.out.1 rfl).mono ?_
 rintro e w1 ⟨rfl,gg1⟩
 have H1:Hid (Blk w1 w.heap.size 32 #[.int .i64 2,.int .i64 tk,.int .i64 ss,.int .i64 nb,.int .i64 mk,.slice ao n cp]/\w.grownBy w1 none):=⟨HW.out.1.grown gg1 (by simp),aa HW.out.2.1 gg1⟩
 clear gg1 HW
 try unfold pt
 have c0:=H1.out.1.cell 0
 have c1:=H1.out.1.cell 2
 have c3:=H1.out.1.cell 3
 have c4:=H1.out.1.cell 4
 simp at c0 c1 c3 c4
 by_cases hi:ss<1
 ·have q:(ss<1)=True:=by simp [hi]
  have N:Hid (ss<1):=hi
  clear hi
  go_wp2_with fail
  go_ret
  refine ⟨?_,H1.out.2⟩
  have:¬(1<=ss):=by have:=N.out;omega
  simp [this]
 have q:(ss<1)=False:=by simp;omega
 have N:Hid (1<=ss):=by unfold Hid;omega
 clear hi
 by_cases hm:mk<0
 ·have q2:(mk<0)=True:=by simp [hm]
  have N2:Hid (mk<0):=hm
  clear hm
  go_wp2_with fail
  go_ret
  refine ⟨?_,H1.out.2⟩
  have:¬(0<=mk/\mk<nb):=by have:=N2.out;omega
  simp [this]
 have q2:(mk<0)=False:=by simp;omega
 have N2:Hid (0<=mk):=by unfold Hid;omega
 clear hm
 by_cases hm:nb<=mk
 ·have q3:(nb<=mk)=True:=by simp [hm]
  have N3:Hid (nb<=mk):=hm
  clear hm
  go_wp2_with fail
  go_ret
  refine ⟨?_,H1.out.2⟩
  have:¬(0<=mk/\mk<nb):=by have:=N3.out;omega
  simp [this]
 have q3:(nb<=mk)=False:=by simp;omega
 have N3:Hid (mk<nb):=by unfold Hid;omega
 clear hm
 go_wp2_with fail
 have HC:Hid (∀y:World,w1.grownBy y none->y.cell? ⟨w.heap.size,0,none⟩=some (.int .i64 2)/\y.cell? ⟨w.heap.size,1,none⟩=some (.int .i64 tk)/\y.cell? ⟨w.heap.size,2,none⟩=some (.int .i64 ss)/\y.cell? ⟨w.heap.size,3,none⟩=some (.int .i64 nb)/\y.cell? ⟨w.heap.size,4,none⟩=some (.int .i64 mk)/\y.cell? ⟨w.heap.size,5,none⟩=some (.slice ao n cp)):=fun y hy=>by
  have hb:=H1.out.1.grown hy (by simp)
  exact ⟨hb.cell 0,hb.cell 1,hb.cell 2,hb.cell 3,hb.cell 4,hb.cell 5⟩
 clear c0 c1 c3 c4 i0
 refine wp_region_noPanic ?_
 refine am 1000 (fun y=>w1.grownBy y none) (by kernel_rfl) ?_
 have G0:Hid (w1.grownBy w1.drew none):=af _ _
 generalize w1.drew=wd at G0 ⊢
 have J:Idx [0,1]:=trivial
 iterate 2 (refine tK J (G0.out) rfl rfl (fun wk hk=>by obtain ⟨m0,m1,m2,m3,m4,m5⟩:=HC.out wk hk;go_simp;try rfl) ?_;replace J:=J.tl;try simp only [pN])
 refine wO 2 rfl fun K hK=>?_
 go_wp2_with fail
 refine (kR (.slice ao n cp) (⟨2,tk,ss,nb,mk,l⟩:PCmd) wd ((HL.out.grown H1.out.2).grown G0.out)).mono ?_
 rintro e w2 ⟨rfl,g2'⟩
 have G2:Hid (w1.grownBy w2 none):=aa G0.out g2'
 clear g2'
 unfold cmdV
 go_wp2_with fail
 refine hK.out _ _ (fun _=>G2.out) ?_
 clear hK K
 try simp only [pN]
 refine wO 3 rfl fun K hK=>?_
 go_wp2_with fail
 refine (nw (.slice ao n cp) (novV (.slice ao n cp) (⟨2,tk,ss,nb,mk,l⟩:PCmd)) (⟨2,tk,ss,nb,mk,l⟩:PCmd) (cV (⟨2,tk,ss,nb,mk,l⟩:PCmd)) w2 ((HL.out.grown H1.out.2).grown G2.out) (kQ (c:=(⟨2,tk,ss,nb,mk,l⟩:PCmd)) ((HL.out.grown H1.out.2).grown G2.out))).mono ?_
 rintro e w3 ⟨rfl,g3'⟩
 have G3:Hid (w1.grownBy w3 none):=aa G2.out g3'
 clear g3'
 go_wp2_with fail
 refine hK.out _ _ (fun _=>G3.out) ?_
 clear hK K
 try simp only [pN]
 refine tS 4 (G3.out) rfl rfl (fun wk hk=>by obtain ⟨m0,m1,m2,m3,m4,m5⟩:=HC.out wk hk;go_simp;try rfl) ?_
 try simp only [pN]
 refine wD ?_
 refine (‹∀(a:Act) (w:World),Code.wp Tryz.prog _ _ a w->_› _ _ ?_)
 go_wp2_with fail
 go_ret
 refine ⟨?_,aa H1.out.2 G3.out⟩
 have:=N.out;have:=N2.out;have:=N3.out;simp [*]
theorem kg (k:Int)(hk34:k=3\/k=4)(ao:Option Addr)(n cp:Nat)(tk ss nb mk:Int)(l:List POp)(w:World)(hl:Ops w (.slice ao n cp) l):Calls Tryz.prog 67 #[cmdV (.slice ao n cp) (⟨k,tk,ss,nb,mk,l⟩:PCmd)] w fun e w'=>e=.returned (.bool (decide (1<=ss) && decide ((⟨k,tk,ss,nb,mk,l⟩:PCmd)=cV (⟨k,tk,ss,nb,mk,l⟩:PCmd))))/\w.grownBy w' none:=by
 have HK:Hid (k=3\/k=4):=hk34
 have k1:(k==1)=false:=by simp;omega
 have k2:(k==2)=false:=by simp;omega
 have k3:(k=1)=False:=eq_false (by omega)
 have k4:(k=2)=False:=eq_false (by omega)
 clear hk34
 have HL:Hid (Ops w (.slice ao n cp) l):=hl
 clear hl
 simp only [cmdV]
 have i0:=ix0
 go_enter Tryz.func67,Tryz.ntmps67
 go_wp2_with fail
 obtain ⟨W,hW,HW⟩:=al1 w #[.int .i64 k,.int .i64 tk,.int .i64 ss,.int .i64 nb,.int .i64 mk,.slice ao n cp] 32
 rw [hW]
 clear hW
 refine (fa w.heap.size (.slice ao n cp) (⟨k,tk,ss,nb,mk,l⟩:PCmd) W HW.out.1 HK.out).mono ?_
 rintro e w1 ⟨rfl,gg1⟩
 have H1:Hid (Blk w1 w.heap.size 32 #[.int .i64 k,.int .i64 tk,.int .i64 ss,.int .i64 nb,.int .i64 mk,.slice ao n cp]/\w.grownBy w1 none):=⟨HW.out.1.grown gg1 (by simp),aa HW.out.2.1 gg1⟩
 clear gg1 HW
 try unfold pt
 have c0:=H1.out.1.cell 0
 have c1:=H1.out.1.cell 2
 have c3:=H1.out.1.cell 3
 have c4:=H1.out.1.cell 4
 simp at c0 c1 c3 c4
 by_cases hi:ss<1
 ·have q:(ss<1)=True:=by simp [hi]
  have N:Hid (ss<1):=hi
  clear hi
  go_wp2_with fail
  go_ret
  refine ⟨?_,H1.out.2⟩
  have:¬(1<=ss):=by have:=N.out;omega
  simp [this]
 have q:(ss<1)=False:=by simp;omega
 have N:Hid (1<=ss):=by unfold Hid;omega
 clear hi
 go_wp2_with fail
 have HC:Hid (∀y:World,w1.grownBy y none->y.cell? ⟨w.heap.size,0,none⟩=some (.int .i64 k)/\y.cell? ⟨w.heap.size,1,none⟩=some (.int .i64 tk)/\y.cell? ⟨w.heap.size,2,none⟩=some (.int .i64 ss)/\y.cell? ⟨w.heap.size,3,none⟩=some (.int .i64 nb)/\y.cell? ⟨w.heap.size,4,none⟩=some (.int .i64 mk)/\y.cell? ⟨w.heap.size,5,none⟩=some (.slice ao n cp)):=fun y hy=>by
  have hb:=H1.out.1.grown hy (by simp)
  exact ⟨hb.cell 0,hb.cell 1,hb.cell 2,hb.cell 3,hb.cell 4,hb.cell 5⟩
 clear c0 c1 c3 c4 i0
 refine wp_region_noPanic ?_
 refine am 1000 (fun y=>w1.grownBy y none) (by kernel_rfl) ?_
 have G0:Hid (w1.grownBy w1.drew none):=af _ _
 generalize w1.drew=wd at G0 ⊢
 have J:Idx [0,1]:=trivial
 iterate 2 (refine tK J (G0.out) rfl rfl (fun wk hk=>by obtain ⟨m0,m1,m2,m3,m4,m5⟩:=HC.out wk hk;go_simp;try rfl) ?_;replace J:=J.tl;try simp only [pN])
 refine wO 2 rfl fun K hK=>?_
 go_wp2_with fail
 refine (kR (.slice ao n cp) (⟨k,tk,ss,nb,mk,l⟩:PCmd) wd ((HL.out.grown H1.out.2).grown G0.out)).mono ?_
 rintro e w2 ⟨rfl,g2'⟩
 have G2:Hid (w1.grownBy w2 none):=aa G0.out g2'
 clear g2'
 unfold cmdV
 go_wp2_with fail
 refine hK.out _ _ (fun _=>G2.out) ?_
 clear hK K
 try simp only [pN]
 refine wO 3 rfl fun K hK=>?_
 go_wp2_with fail
 refine (nw (.slice ao n cp) (novV (.slice ao n cp) (⟨k,tk,ss,nb,mk,l⟩:PCmd)) (⟨k,tk,ss,nb,mk,l⟩:PCmd) (cV (⟨k,tk,ss,nb,mk,l⟩:PCmd)) w2 ((HL.out.grown H1.out.2).grown G2.out) (kQ (c:=(⟨k,tk,ss,nb,mk,l⟩:PCmd)) ((HL.out.grown H1.out.2).grown G2.out))).mono ?_
 rintro e w3 ⟨rfl,g3'⟩
 have G3:Hid (w1.grownBy w3 none):=aa G2.out g3'
 clear g3'
 go_wp2_with fail
 refine hK.out _ _ (fun _=>G3.out) ?_
 clear hK K
 try simp only [pN]
 refine tS 4 (G3.out) rfl rfl (fun wk hk=>by obtain ⟨m0,m1,m2,m3,m4,m5⟩:=HC.out wk hk;go_simp;try rfl) ?_
 try simp only [pN]
 refine wD ?_
 refine (‹∀(a:Act) (w:World),Code.wp Tryz.prog _ _ a w->_› _ _ ?_)
 go_wp2_with fail
 go_ret
 refine ⟨?_,aa H1.out.2 G3.out⟩
 have:=N.out;simp [this]
theorem qZ (ao:Option Addr)(n cp:Nat)(k:Int)(tk ss nb mk:Int)(l:List POp)(w:World)(hl:Ops w (.slice ao n cp) l)(h1:(k==1)=false)(h2:(k==2)=false)(h3:(k==3)=false)(h4:(k==4)=false):Calls Tryz.prog 67 #[cmdV (.slice ao n cp) (⟨k,tk,ss,nb,mk,l⟩:PCmd)] w fun e w'=>e=.returned (.bool (false))/\w.grownBy w' none:=by
 have HL:Hid (Ops w (.slice ao n cp) l):=hl
 clear hl
 simp only [cmdV]
 have i0:=ix0
 go_enter Tryz.func67,Tryz.ntmps67
 go_wp2_with fail
 obtain ⟨W,hW,HW⟩:=al1 w #[.int .i64 k,.int .i64 tk,.int .i64 ss,.int .i64 nb,.int .i64 mk,.slice ao n cp] 32
 rw [hW]
 clear hW
 refine (eh w.heap.size (.slice ao n cp) (⟨k,tk,ss,nb,mk,l⟩:PCmd) W HW.out.1 h1 h2 h3 h4).mono ?_
 rintro e w1 ⟨rfl,gg1⟩
 have H1:Hid (Blk w1 w.heap.size 32 #[.int .i64 k,.int .i64 tk,.int .i64 ss,.int .i64 nb,.int .i64 mk,.slice ao n cp]/\w.grownBy w1 none):=⟨HW.out.1.grown gg1 (by simp),aa HW.out.2.1 gg1⟩
 clear gg1 HW
 try unfold pt
 go_wp2_with fail
 go_ret
 exact ⟨rfl,H1.out.2⟩
theorem jg (ov:Value)(c:PCmd)(w:World)(h:Ops w ov c.ops):Calls Tryz.prog 67 #[cmdV ov c] w fun e w'=>e=.returned (.bool (fitC c))/\w.grownBy w' none:=by
 obtain ⟨ao,n,cp,rfl,_⟩:=aX h
 obtain ⟨k,tk,ss,nb,mk,l⟩:=c
 unfold fitC idOk idC ns
 by_cases h1:k=1
 ·subst h1;simpa using qX ao n cp tk ss nb mk l w h
 ·by_cases h2:k=2
  ·subst h2;simpa using qY ao n cp tk ss nb mk l w h
  ·by_cases h3:k=3
   ·subst h3;simpa using kg 3 (.inl rfl) ao n cp tk ss nb mk l w h
   ·by_cases h4:k=4
    ·subst h4;simpa using kg 4 (.inr rfl) ao n cp tk ss nb mk l w h
    ·have:=qZ ao n cp k tk ss nb mk l w h (by simp [h1]) (by simp [h2]) (by simp [h3]) (by simp [h4])
     simpa [h1,h2,h3,h4] using this
theorem bf {n:Int}(h0:-9223372036854775808<=n)(h1:n<=9223372036854775807):(sgn n).length<=10:=Wire.ay _ (Wire.jQ n h0 h1)
def jh (c:PCmd)(w:World)(e:Ending)(w':World):Prop:=∃u,e=.returned (.tuple #[u,.int .i64 (chkC c)])/\Own w' w.heap.size u (if okC c=true then aS c else [])/\w.grownBy w' none
def ResC (k:Int)(L:Bs)(w:World)(e:Ending)(w':World):Prop:=∃u,e=.returned (.tuple #[u,.int .i64 k])/\Own w' w.heap.size u L/\w.grownBy w' none
theorem nx (ov:Value)(c:PCmd)(w:World)(hl:Ops w ov c.ops)(hf:fitC c=false):Calls Tryz.prog 37 #[cmdV ov c] w (ResC 2 [] w):=by
 obtain ⟨ao,n,cp,rfl,_,_,HL⟩:=aX hl
 clear hl
 unfold cmdV
 go_enter Tryz.func37,Tryz.ntmps37
 go_wp2_with fail
 obtain ⟨W,hW,HW⟩:=al1 w (cmdA (.slice ao n cp) c) 32
 unfold cmdA at hW
 rw [hW]
 clear hW
 refine (jg (.slice ao n cp) c W (HL.out.grown HW.out.2.1)).mono ?_
 rintro e w1 ⟨rfl,g1⟩
 rw [hf]
 have G:Hid (w.grownBy w1 none):=aa HW.out.2.1 g1
 clear g1 HW
 go_wp2_with fail
 go_ret2
 exact ⟨_,rfl,Own.nil _ _,G.out⟩
theorem pG (ao:Option Addr)(n cp:Nat)(tk ss nb mk:Int)(l:List POp)(w:World)(hl:Ops w (.slice ao n cp) l)(hI:InC (⟨1,tk,ss,nb,mk,l⟩:PCmd))(hf:fitC (⟨1,tk,ss,nb,mk,l⟩:PCmd)=true):Calls Tryz.prog 37 #[cmdV (.slice ao n cp) (⟨1,tk,ss,nb,mk,l⟩:PCmd)] w (jh (⟨1,tk,ss,nb,mk,l⟩:PCmd) w):=by
 have HL:Hid (Ops w (.slice ao n cp) l/\InC (⟨1,tk,ss,nb,mk,l⟩:PCmd)):=⟨hl,hI⟩
 clear hl hI
 simp only [cmdV]
 have i0:=ix0
 have i1:=ix1
 have i2:=ix2
 go_enter Tryz.func37,Tryz.ntmps37
 go_wp2_with fail
 obtain ⟨W,hW,HW⟩:=al1 w #[.int .i64 1,.int .i64 tk,.int .i64 ss,.int .i64 nb,.int .i64 mk,.slice ao n cp] 32
 rw [hW]
 clear hW
 refine (jg (.slice ao n cp) (⟨1,tk,ss,nb,mk,l⟩:PCmd) W (HL.out.1.grown HW.out.2.1)).mono ?_
 rintro e w1 ⟨rfl,gg1⟩
 rw [hf]
 have H1:Hid (Blk w1 w.heap.size 32 #[.int .i64 1,.int .i64 tk,.int .i64 ss,.int .i64 nb,.int .i64 mk,.slice ao n cp]/\w.grownBy w1 none/\w.heap.size<w1.heap.size):=⟨HW.out.1.grown gg1 (by simp),aa HW.out.2.1 gg1,by have:=gg1.size;have:=HW.out.2.2;omega⟩
 clear gg1 HW
 have HF:Hid (fitC (⟨1,tk,ss,nb,mk,l⟩:PCmd)=true):=hf
 clear hf
 have c0:=H1.out.1.cell 0
 simp at c0
 go_wp2_with fail
 refine (Wire.aQ _ 1 rfl (by decide) _).mono ?_
 rintro e w2 ⟨u0,rfl,o0,gg2⟩
 obtain ⟨x0,y0,e0⟩:=o0.seg.shape
 subst e0
 have H2:Hid (Blk w2 w.heap.size 32 #[.int .i64 1,.int .i64 tk,.int .i64 ss,.int .i64 nb,.int .i64 mk,.slice ao n cp]/\w.grownBy w2 none/\Own w2 (w.heap.size+1) (.slice x0 (Wire.ai 1).length y0) (Wire.ai 1)):=⟨H1.out.1.grown gg2 (by simp),aa H1.out.2.1 gg2,Own.mono o0 H1.out.2.2⟩
 clear gg2 o0 H1 c0
 obtain ⟨F0,hF0⟩:∃F,Wire.ai 1=F:=⟨_,rfl⟩
 have B0:Hid (F0.length<=10/\Wire.ai 1=F0):=⟨by rw [<-hF0];exact Wire.ay _ (by decide),hF0⟩
 rw [hF0] at H2 ⊢
 clear hF0
 obtain ⟨n0,hn0⟩:∃n,F0.length=n:=⟨_,rfl⟩
 rw [hn0] at H2 ⊢
 have N0:Hid (F0.length=n0):=hn0
 clear hn0
 go_wp2_with fail
 refine (dB w.heap.size (.slice ao n cp) (⟨1,tk,ss,nb,mk,l⟩:PCmd) w2 H2.out.1 rfl).mono ?_
 rintro e w3 ⟨rfl,gg3⟩
 have H3:Hid (Blk w3 w.heap.size 32 #[.int .i64 1,.int .i64 tk,.int .i64 ss,.int .i64 nb,.int .i64 mk,.slice ao n cp]/\w.grownBy w3 none/\Own w3 (w.heap.size+1) (.slice x0 n0 y0) F0):=⟨H2.out.1.grown gg3 (by simp),aa H2.out.2.1 gg3,H2.out.2.2.grown gg3⟩
 clear gg3 H2
 try unfold pt
 go_wp2_with fail
 refine wp_loop_rounds 4 ?_
 rw [rounds_succ]
 have a0:=H3.out.1.cell 1
 simp at a0
 go_wp2_with fail
 refine (Wire.eY tk HL.out.2.t0 HL.out.2.t1 _).mono ?_
 rintro e p0 ⟨r0,rfl,or0,gr0⟩
 obtain ⟨s0,t0,er0⟩:=or0.seg.shape
 subst er0
 have H4:Hid (Blk p0 w.heap.size 32 #[.int .i64 1,.int .i64 tk,.int .i64 ss,.int .i64 nb,.int .i64 mk,.slice ao n cp]/\w.grownBy p0 none/\Seg p0 (.slice x0 n0 y0) F0/\Seg p0 (.slice s0 (Wire.ai (Wire.bX tk)).length t0) (sgn tk)/\w.heap.size+1<=p0.heap.size):=⟨H3.out.1.grown gr0 (by simp),aa H3.out.2.1 gr0,H3.out.2.2.seg.grown gr0,or0.seg,by have:=gr0.size;have:=H3.out.1.lt;omega⟩
 clear or0 gr0 H3 a0
 go_wp2_with fail
 refine (Wire.bO _ [F0,sgn tk] _ (Wire.ch H4.out.2.2.1 H4.out.2.2.2.1) ?_).mono ?_
 ·have h1:=B0.out.1
  have h2:(sgn tk).length<=10:=bf HL.out.2.t0 HL.out.2.t1
  simp;omega
 rintro e q0 ⟨u1,rfl,o1,g1⟩
 obtain ⟨x1,y1,e1⟩:=o1.seg.shape
 subst e1
 have hfl:[F0,sgn tk].flatten=F0 ++ sgn tk:=by simp
 rw [hfl] at o1 ⊢
 clear hfl
 obtain ⟨F1,hF1⟩:∃F,F0 ++ sgn tk=F:=⟨_,rfl⟩
 rw [hF1] at o1 ⊢
 have B1:Hid (F1.length<=20/\F0 ++ sgn tk=F1):=⟨by
  have h1:=B0.out.1
  have h2:(sgn tk).length<=10:=bf HL.out.2.t0 HL.out.2.t1
  rw [<-hF1,List.length_append];omega,hF1⟩
 clear hF1
 obtain ⟨n1,hn1⟩:∃n,F1.length=n:=⟨_,rfl⟩
 rw [hn1] at o1 ⊢
 clear hn1
 have H5:Hid (Blk q0 w.heap.size 32 #[.int .i64 1,.int .i64 tk,.int .i64 ss,.int .i64 nb,.int .i64 mk,.slice ao n cp]/\w.grownBy q0 none/\Own q0 (w.heap.size+1) (.slice x1 n1 y1) F1):=by
  have ga:=World.grownBy_alloc p0 (.cells #[(.slice x0 n0 y0),.slice s0 (Wire.ai (Wire.bX tk)).length t0] 23) none
  exact ⟨(H4.out.1.grown ga (by simp)).grown g1 (by simp),aa (aa H4.out.2.1 ga) g1,Own.mono o1 (by have:=H4.out.2.2.2.2;have:=ga.size;omega)⟩
 clear o1 g1 H4
 have H3:=H5
 clear H5
 go_wp2_with fail
 rw [rounds_succ]
 go_wp2_with fail
 rw [rounds_succ]
 go_wp2_with fail
 rw [rounds_succ]
 have a9:=H3.out.1.cell 0
 have a8:=H3.out.1.cell 5
 simp at a9 a8
 go_wp2_with fail
 go_ret2
 have hok:okC (⟨1,tk,ss,nb,mk,l⟩:PCmd)=true:=by unfold okC;rw [HF.out];simp
 refine ⟨_,by rw [chkC,if_pos hok];rfl,?_,H3.out.2.1⟩
 rw [if_pos hok]
 have hE:aS (⟨1,tk,ss,nb,mk,l⟩:PCmd)=F1:=by
  rw [<-B1.out.2,<-B0.out.2]
  simp [aS,cB,dn,dA]
 rw [hE]
 exact Own.mono H3.out.2.2 (by omega)
theorem pH (ao:Option Addr)(n cp:Nat)(tk ss nb mk:Int)(l:List POp)(w:World)(hl:Ops w (.slice ao n cp) l)(hI:InC (⟨2,tk,ss,nb,mk,l⟩:PCmd))(hf:fitC (⟨2,tk,ss,nb,mk,l⟩:PCmd)=true):Calls Tryz.prog 37 #[cmdV (.slice ao n cp) (⟨2,tk,ss,nb,mk,l⟩:PCmd)] w (jh (⟨2,tk,ss,nb,mk,l⟩:PCmd) w):=by
 have HL:Hid (Ops w (.slice ao n cp) l/\InC (⟨2,tk,ss,nb,mk,l⟩:PCmd)):=⟨hl,hI⟩
 clear hl hI
 simp only [cmdV]
 have i0:=ix0
 have i1:=ix1
 have i2:=ix2
 go_enter Tryz.func37,Tryz.ntmps37
 go_wp2_with fail
 obtain ⟨W,hW,HW⟩:=al1 w #[.int .i64 2,.int .i64 tk,.int .i64 ss,.int .i64 nb,.int .i64 mk,.slice ao n cp] 32
 rw [hW]
 clear hW
 refine (jg (.slice ao n cp) (⟨2,tk,ss,nb,mk,l⟩:PCmd) W (HL.out.1.grown HW.out.2.1)).mono ?_
 rintro e w1 ⟨rfl,gg1⟩
 rw [hf]
 have H1:Hid (Blk w1 w.heap.size 32 #[.int .i64 2,.int .i64 tk,.int .i64 ss,.int .i64 nb,.int .i64 mk,.slice ao n cp]/\w.grownBy w1 none/\w.heap.size<w1.heap.size):=⟨HW.out.1.grown gg1 (by simp),aa HW.out.2.1 gg1,by have:=gg1.size;have:=HW.out.2.2;omega⟩
 clear gg1 HW
 have HF:Hid (fitC (⟨2,tk,ss,nb,mk,l⟩:PCmd)=true):=hf
 clear hf
 have c0:=H1.out.1.cell 0
 simp at c0
 go_wp2_with fail
 refine (Wire.aQ _ 2 rfl (by decide) _).mono ?_
 rintro e w2 ⟨u0,rfl,o0,gg2⟩
 obtain ⟨x0,y0,e0⟩:=o0.seg.shape
 subst e0
 have H2:Hid (Blk w2 w.heap.size 32 #[.int .i64 2,.int .i64 tk,.int .i64 ss,.int .i64 nb,.int .i64 mk,.slice ao n cp]/\w.grownBy w2 none/\Own w2 (w.heap.size+1) (.slice x0 (Wire.ai 2).length y0) (Wire.ai 2)):=⟨H1.out.1.grown gg2 (by simp),aa H1.out.2.1 gg2,Own.mono o0 H1.out.2.2⟩
 clear gg2 o0 H1 c0
 obtain ⟨F0,hF0⟩:∃F,Wire.ai 2=F:=⟨_,rfl⟩
 have B0:Hid (F0.length<=10/\Wire.ai 2=F0):=⟨by rw [<-hF0];exact Wire.ay _ (by decide),hF0⟩
 rw [hF0] at H2 ⊢
 clear hF0
 obtain ⟨n0,hn0⟩:∃n,F0.length=n:=⟨_,rfl⟩
 rw [hn0] at H2 ⊢
 have N0:Hid (F0.length=n0):=hn0
 clear hn0
 go_wp2_with fail
 refine (dD w.heap.size (.slice ao n cp) (⟨2,tk,ss,nb,mk,l⟩:PCmd) w2 H2.out.1 rfl).mono ?_
 rintro e w3 ⟨rfl,gg3⟩
 have H3:Hid (Blk w3 w.heap.size 32 #[.int .i64 2,.int .i64 tk,.int .i64 ss,.int .i64 nb,.int .i64 mk,.slice ao n cp]/\w.grownBy w3 none/\Own w3 (w.heap.size+1) (.slice x0 n0 y0) F0):=⟨H2.out.1.grown gg3 (by simp),aa H2.out.2.1 gg3,H2.out.2.2.grown gg3⟩
 clear gg3 H2
 try unfold pt
 go_wp2_with fail
 refine wp_loop_rounds 4 ?_
 rw [rounds_succ]
 have a0:=H3.out.1.cell 2
 simp at a0
 go_wp2_with fail
 refine (Wire.eY ss HL.out.2.s0 HL.out.2.s1 _).mono ?_
 rintro e p0 ⟨r0,rfl,or0,gr0⟩
 obtain ⟨s0,t0,er0⟩:=or0.seg.shape
 subst er0
 have H4:Hid (Blk p0 w.heap.size 32 #[.int .i64 2,.int .i64 tk,.int .i64 ss,.int .i64 nb,.int .i64 mk,.slice ao n cp]/\w.grownBy p0 none/\Seg p0 (.slice x0 n0 y0) F0/\Seg p0 (.slice s0 (Wire.ai (Wire.bX ss)).length t0) (sgn ss)/\w.heap.size+1<=p0.heap.size):=⟨H3.out.1.grown gr0 (by simp),aa H3.out.2.1 gr0,H3.out.2.2.seg.grown gr0,or0.seg,by have:=gr0.size;have:=H3.out.1.lt;omega⟩
 clear or0 gr0 H3 a0
 go_wp2_with fail
 refine (Wire.bO _ [F0,sgn ss] _ (Wire.ch H4.out.2.2.1 H4.out.2.2.2.1) ?_).mono ?_
 ·have h1:=B0.out.1
  have h2:(sgn ss).length<=10:=bf HL.out.2.s0 HL.out.2.s1
  simp;omega
 rintro e q0 ⟨u1,rfl,o1,g1⟩
 obtain ⟨x1,y1,e1⟩:=o1.seg.shape
 subst e1
 have hfl:[F0,sgn ss].flatten=F0 ++ sgn ss:=by simp
 rw [hfl] at o1 ⊢
 clear hfl
 obtain ⟨F1,hF1⟩:∃F,F0 ++ sgn ss=F:=⟨_,rfl⟩
 rw [hF1] at o1 ⊢
 have B1:Hid (F1.length<=20/\F0 ++ sgn ss=F1):=⟨by
  have h1:=B0.out.1
  have h2:(sgn ss).length<=10:=bf HL.out.2.s0 HL.out.2.s1
  rw [<-hF1,List.length_append];omega,hF1⟩
 clear hF1
 obtain ⟨n1,hn1⟩:∃n,F1.length=n:=⟨_,rfl⟩
 rw [hn1] at o1 ⊢
 clear hn1
 have H5:Hid (Blk q0 w.heap.size 32 #[.int .i64 2,.int .i64 tk,.int .i64 ss,.int .i64 nb,.int .i64 mk,.slice ao n cp]/\w.grownBy q0 none/\Own q0 (w.heap.size+1) (.slice x1 n1 y1) F1):=by
  have ga:=World.grownBy_alloc p0 (.cells #[(.slice x0 n0 y0),.slice s0 (Wire.ai (Wire.bX ss)).length t0] 23) none
  exact ⟨(H4.out.1.grown ga (by simp)).grown g1 (by simp),aa (aa H4.out.2.1 ga) g1,Own.mono o1 (by have:=H4.out.2.2.2.2;have:=ga.size;omega)⟩
 clear o1 g1 H4
 have H3:=H5
 clear H5
 go_wp2_with fail
 rw [rounds_succ]
 have a1:=H3.out.1.cell 3
 simp at a1
 go_wp2_with fail
 refine (Wire.eY nb HL.out.2.n0 HL.out.2.n1 _).mono ?_
 rintro e p1 ⟨r1,rfl,or1,gr1⟩
 obtain ⟨s1,t1,er1⟩:=or1.seg.shape
 subst er1
 have H4:Hid (Blk p1 w.heap.size 32 #[.int .i64 2,.int .i64 tk,.int .i64 ss,.int .i64 nb,.int .i64 mk,.slice ao n cp]/\w.grownBy p1 none/\Seg p1 (.slice x1 n1 y1) F1/\Seg p1 (.slice s1 (Wire.ai (Wire.bX nb)).length t1) (sgn nb)/\w.heap.size+1<=p1.heap.size):=⟨H3.out.1.grown gr1 (by simp),aa H3.out.2.1 gr1,H3.out.2.2.seg.grown gr1,or1.seg,by have:=gr1.size;have:=H3.out.1.lt;omega⟩
 clear or1 gr1 H3 a1
 go_wp2_with fail
 refine (Wire.bO _ [F1,sgn nb] _ (Wire.ch H4.out.2.2.1 H4.out.2.2.2.1) ?_).mono ?_
 ·have h1:=B1.out.1
  have h2:(sgn nb).length<=10:=bf HL.out.2.n0 HL.out.2.n1
  simp;omega
 rintro e q1 ⟨u2,rfl,o2,g2⟩
 obtain ⟨x2,y2,e2⟩:=o2.seg.shape
 subst e2
 have hfl:[F1,sgn nb].flatten=F1 ++ sgn nb:=by simp
 rw [hfl] at o2 ⊢
 clear hfl
 obtain ⟨F2,hF2⟩:∃F,F1 ++ sgn nb=F:=⟨_,rfl⟩
 rw [hF2] at o2 ⊢
 have B2:Hid (F2.length<=30/\F1 ++ sgn nb=F2):=⟨by
  have h1:=B1.out.1
  have h2:(sgn nb).length<=10:=bf HL.out.2.n0 HL.out.2.n1
  rw [<-hF2,List.length_append];omega,hF2⟩
 clear hF2
 obtain ⟨n2,hn2⟩:∃n,F2.length=n:=⟨_,rfl⟩
 rw [hn2] at o2 ⊢
 clear hn2
 have H5:Hid (Blk q1 w.heap.size 32 #[.int .i64 2,.int .i64 tk,.int .i64 ss,.int .i64 nb,.int .i64 mk,.slice ao n cp]/\w.grownBy q1 none/\Own q1 (w.heap.size+1) (.slice x2 n2 y2) F2):=by
  have ga:=World.grownBy_alloc p1 (.cells #[(.slice x1 n1 y1),.slice s1 (Wire.ai (Wire.bX nb)).length t1] 23) none
  exact ⟨(H4.out.1.grown ga (by simp)).grown g2 (by simp),aa (aa H4.out.2.1 ga) g2,Own.mono o2 (by have:=H4.out.2.2.2.2;have:=ga.size;omega)⟩
 clear o2 g2 H4
 have H3:=H5
 clear H5
 go_wp2_with fail
 rw [rounds_succ]
 have a2:=H3.out.1.cell 4
 simp at a2
 go_wp2_with fail
 refine (Wire.eY mk HL.out.2.m0 HL.out.2.m1 _).mono ?_
 rintro e p2 ⟨r2,rfl,or2,gr2⟩
 obtain ⟨s2,t2,er2⟩:=or2.seg.shape
 subst er2
 have H4:Hid (Blk p2 w.heap.size 32 #[.int .i64 2,.int .i64 tk,.int .i64 ss,.int .i64 nb,.int .i64 mk,.slice ao n cp]/\w.grownBy p2 none/\Seg p2 (.slice x2 n2 y2) F2/\Seg p2 (.slice s2 (Wire.ai (Wire.bX mk)).length t2) (sgn mk)/\w.heap.size+1<=p2.heap.size):=⟨H3.out.1.grown gr2 (by simp),aa H3.out.2.1 gr2,H3.out.2.2.seg.grown gr2,or2.seg,by have:=gr2.size;have:=H3.out.1.lt;omega⟩
 clear or2 gr2 H3 a2
 go_wp2_with fail
 refine (Wire.bO _ [F2,sgn mk] _ (Wire.ch H4.out.2.2.1 H4.out.2.2.2.1) ?_).mono ?_
 ·have h1:=B2.out.1
  have h2:(sgn mk).length<=10:=bf HL.out.2.m0 HL.out.2.m1
  simp;omega
 rintro e q2 ⟨u3,rfl,o3,g3⟩
 obtain ⟨x3,y3,e3⟩:=o3.seg.shape
 subst e3
 have hfl:[F2,sgn mk].flatten=F2 ++ sgn mk:=by simp
 rw [hfl] at o3 ⊢
 clear hfl
 obtain ⟨F3,hF3⟩:∃F,F2 ++ sgn mk=F:=⟨_,rfl⟩
 rw [hF3] at o3 ⊢
 have B3:Hid (F3.length<=40/\F2 ++ sgn mk=F3):=⟨by
  have h1:=B2.out.1
  have h2:(sgn mk).length<=10:=bf HL.out.2.m0 HL.out.2.m1
  rw [<-hF3,List.length_append];omega,hF3⟩
 clear hF3
 obtain ⟨n3,hn3⟩:∃n,F3.length=n:=⟨_,rfl⟩
 rw [hn3] at o3 ⊢
 clear hn3
 have H5:Hid (Blk q2 w.heap.size 32 #[.int .i64 2,.int .i64 tk,.int .i64 ss,.int .i64 nb,.int .i64 mk,.slice ao n cp]/\w.grownBy q2 none/\Own q2 (w.heap.size+1) (.slice x3 n3 y3) F3):=by
  have ga:=World.grownBy_alloc p2 (.cells #[(.slice x2 n2 y2),.slice s2 (Wire.ai (Wire.bX mk)).length t2] 23) none
  exact ⟨(H4.out.1.grown ga (by simp)).grown g3 (by simp),aa (aa H4.out.2.1 ga) g3,Own.mono o3 (by have:=H4.out.2.2.2.2;have:=ga.size;omega)⟩
 clear o3 g3 H4
 have H3:=H5
 clear H5
 go_wp2_with fail
 rw [rounds_succ]
 have a9:=H3.out.1.cell 0
 have a8:=H3.out.1.cell 5
 simp at a9 a8
 go_wp2_with fail
 refine (ti (.slice ao n cp) l q2 (HL.out.1.grown H3.out.2.1)).mono ?_
 rintro e v1 ⟨r9,rfl,o9,g9⟩
 by_cases hc:chk l=0
 ·rw [if_pos hc] at o9
  rw [hc]
  obtain ⟨s9,t9,e9⟩:=o9.seg.shape
  subst e9
  have hlen:(aA l).length<=4096:=(chk0 hc).2
  have H6:Hid (w.grownBy v1 none/\Seg v1 (.slice x3 n3 y3) F3/\Seg v1 (.slice s9 (aA l).length t9) (aA l)/\chk l=0/\w.heap.size+1<=v1.heap.size):=⟨aa H3.out.2.1 g9,H3.out.2.2.seg.grown g9,o9.seg,hc,by have:=g9.size;have:=H3.out.1.lt;omega⟩
  clear o9 g9 H3 hc a9 a8
  obtain ⟨CF,hCF⟩:∃F,aA l=F:=⟨_,rfl⟩
  rw [hCF] at H6 hlen ⊢
  have BC:Hid (aA l=CF/\CF.length<=4096):=⟨hCF,hlen⟩
  clear hCF hlen
  obtain ⟨nc,hnc⟩:∃n,CF.length=n:=⟨_,rfl⟩
  rw [hnc] at H6 ⊢
  clear hnc
  go_wp2_with fail
  refine (Wire.bD (.slice s9 nc t9) CF v1 H6.out.2.2.1 (by have:=BC.out.2;omega)).mono ?_
  rintro e v2 ⟨r7,rfl,o7,g7⟩
  obtain ⟨s7,t7,e7⟩:=o7.seg.shape
  subst e7
  have H7:Hid (w.grownBy v2 none/\Seg v2 (.slice x3 n3 y3) F3/\Seg v2 (.slice s7 (Wire.ag CF).length t7) (ag CF)/\chk l=0/\w.heap.size+1<=v2.heap.size):=⟨aa H6.out.1 g7,H6.out.2.1.grown g7,o7.seg,H6.out.2.2.2.1,by have:=g7.size;have:=H6.out.2.2.2.2;omega⟩
  have bl:Hid ((ag CF).length<=4106):=by
   have h1:=BC.out.2
   have h2:=Wire.ay CF.length (by omega)
   unfold Hid ag
   rw [List.length_append];omega
  clear o7 g7 H6
  go_wp2_with fail
  refine (Wire.bO _ [F3,ag CF] _ (Wire.ch H7.out.2.1 H7.out.2.2.1) ?_).mono ?_
  ·have h1:=B3.out.1
   have h2:=bl.out
   simp;omega
  rintro e v3 ⟨r6,rfl,o6,g6⟩
  have hfl:[F3,ag CF].flatten=F3 ++ ag CF:=by simp
  rw [hfl] at o6
  have ga:=World.grownBy_alloc v2 (.cells #[(.slice x3 n3 y3),.slice s7 (Wire.ag CF).length t7] 23) none
  have H8:Hid (Own v3 w.heap.size r6 (F3 ++ ag CF)/\w.grownBy v3 none):=⟨Own.mono o6 (by have:=H7.out.2.2.2.2;have:=ga.size;omega),aa (aa H7.out.1 ga) g6⟩
  clear o6 g6 ga hfl
  go_wp2_with fail
  go_ret2
  have hok:okC (⟨2,tk,ss,nb,mk,l⟩:PCmd)=true:=by unfold okC;rw [HF.out];simp [H7.out.2.2.2.1]
  refine ⟨_,by rw [chkC,if_pos hok];rfl,?_,H8.out.2⟩
  rw [if_pos hok]
  have hE:aS (⟨2,tk,ss,nb,mk,l⟩:PCmd)=F3 ++ ag CF:=by
   rw [<-BC.out.1]
   rw [<-B3.out.2,<-B2.out.2,<-B1.out.2,<-B0.out.2]
   simp [aS,cB,dn,dA]
  rw [hE]
  exact H8.out.1
 ·have hno:okC (⟨2,tk,ss,nb,mk,l⟩:PCmd)=false:=by unfold okC;rw [HF.out];simp [hc]
  have qc:(chk l==0)=false:=by simp [hc]
  have qd:(chk l=0)=False:=by simp [hc]
  have H6:Hid (w.grownBy v1 none/\okC (⟨2,tk,ss,nb,mk,l⟩:PCmd)=false):=⟨aa H3.out.2.1 g9,hno⟩
  obtain ⟨s9,t9,e9⟩:=o9.seg.shape
  subst e9
  clear o9 g9 H3 hno hc
  go_wp2_with fail
  go_ret2
  refine ⟨_,by rw [chkC,if_neg (by rw [H6.out.2];decide)];rfl,?_,H6.out.1⟩
  rw [if_neg (by rw [H6.out.2];decide)]
  exact Own.nil _ _
theorem pI (ao:Option Addr)(n cp:Nat)(tk ss nb mk:Int)(l:List POp)(w:World)(hl:Ops w (.slice ao n cp) l)(hI:InC (⟨3,tk,ss,nb,mk,l⟩:PCmd))(hf:fitC (⟨3,tk,ss,nb,mk,l⟩:PCmd)=true):Calls Tryz.prog 37 #[cmdV (.slice ao n cp) (⟨3,tk,ss,nb,mk,l⟩:PCmd)] w (jh (⟨3,tk,ss,nb,mk,l⟩:PCmd) w):=by
 have HL:Hid (Ops w (.slice ao n cp) l/\InC (⟨3,tk,ss,nb,mk,l⟩:PCmd)):=⟨hl,hI⟩
 clear hl hI
 simp only [cmdV]
 have i0:=ix0
 have i1:=ix1
 have i2:=ix2
 go_enter Tryz.func37,Tryz.ntmps37
 go_wp2_with fail
 obtain ⟨W,hW,HW⟩:=al1 w #[.int .i64 3,.int .i64 tk,.int .i64 ss,.int .i64 nb,.int .i64 mk,.slice ao n cp] 32
 rw [hW]
 clear hW
 refine (jg (.slice ao n cp) (⟨3,tk,ss,nb,mk,l⟩:PCmd) W (HL.out.1.grown HW.out.2.1)).mono ?_
 rintro e w1 ⟨rfl,gg1⟩
 rw [hf]
 have H1:Hid (Blk w1 w.heap.size 32 #[.int .i64 3,.int .i64 tk,.int .i64 ss,.int .i64 nb,.int .i64 mk,.slice ao n cp]/\w.grownBy w1 none/\w.heap.size<w1.heap.size):=⟨HW.out.1.grown gg1 (by simp),aa HW.out.2.1 gg1,by have:=gg1.size;have:=HW.out.2.2;omega⟩
 clear gg1 HW
 have HF:Hid (fitC (⟨3,tk,ss,nb,mk,l⟩:PCmd)=true):=hf
 clear hf
 have c0:=H1.out.1.cell 0
 simp at c0
 go_wp2_with fail
 refine (Wire.aQ _ 3 rfl (by decide) _).mono ?_
 rintro e w2 ⟨u0,rfl,o0,gg2⟩
 obtain ⟨x0,y0,e0⟩:=o0.seg.shape
 subst e0
 have H2:Hid (Blk w2 w.heap.size 32 #[.int .i64 3,.int .i64 tk,.int .i64 ss,.int .i64 nb,.int .i64 mk,.slice ao n cp]/\w.grownBy w2 none/\Own w2 (w.heap.size+1) (.slice x0 (Wire.ai 3).length y0) (Wire.ai 3)):=⟨H1.out.1.grown gg2 (by simp),aa H1.out.2.1 gg2,Own.mono o0 H1.out.2.2⟩
 clear gg2 o0 H1 c0
 obtain ⟨F0,hF0⟩:∃F,Wire.ai 3=F:=⟨_,rfl⟩
 have B0:Hid (F0.length<=10/\Wire.ai 3=F0):=⟨by rw [<-hF0];exact Wire.ay _ (by decide),hF0⟩
 rw [hF0] at H2 ⊢
 clear hF0
 obtain ⟨n0,hn0⟩:∃n,F0.length=n:=⟨_,rfl⟩
 rw [hn0] at H2 ⊢
 have N0:Hid (F0.length=n0):=hn0
 clear hn0
 go_wp2_with fail
 refine (fD w.heap.size (.slice ao n cp) (⟨3,tk,ss,nb,mk,l⟩:PCmd) w2 H2.out.1 rfl).mono ?_
 rintro e w3 ⟨rfl,gg3⟩
 have H3:Hid (Blk w3 w.heap.size 32 #[.int .i64 3,.int .i64 tk,.int .i64 ss,.int .i64 nb,.int .i64 mk,.slice ao n cp]/\w.grownBy w3 none/\Own w3 (w.heap.size+1) (.slice x0 n0 y0) F0):=⟨H2.out.1.grown gg3 (by simp),aa H2.out.2.1 gg3,H2.out.2.2.grown gg3⟩
 clear gg3 H2
 try unfold pt
 go_wp2_with fail
 refine wp_loop_rounds 4 ?_
 rw [rounds_succ]
 have a0:=H3.out.1.cell 2
 simp at a0
 go_wp2_with fail
 refine (Wire.eY ss HL.out.2.s0 HL.out.2.s1 _).mono ?_
 rintro e p0 ⟨r0,rfl,or0,gr0⟩
 obtain ⟨s0,t0,er0⟩:=or0.seg.shape
 subst er0
 have H4:Hid (Blk p0 w.heap.size 32 #[.int .i64 3,.int .i64 tk,.int .i64 ss,.int .i64 nb,.int .i64 mk,.slice ao n cp]/\w.grownBy p0 none/\Seg p0 (.slice x0 n0 y0) F0/\Seg p0 (.slice s0 (Wire.ai (Wire.bX ss)).length t0) (sgn ss)/\w.heap.size+1<=p0.heap.size):=⟨H3.out.1.grown gr0 (by simp),aa H3.out.2.1 gr0,H3.out.2.2.seg.grown gr0,or0.seg,by have:=gr0.size;have:=H3.out.1.lt;omega⟩
 clear or0 gr0 H3 a0
 go_wp2_with fail
 refine (Wire.bO _ [F0,sgn ss] _ (Wire.ch H4.out.2.2.1 H4.out.2.2.2.1) ?_).mono ?_
 ·have h1:=B0.out.1
  have h2:(sgn ss).length<=10:=bf HL.out.2.s0 HL.out.2.s1
  simp;omega
 rintro e q0 ⟨u1,rfl,o1,g1⟩
 obtain ⟨x1,y1,e1⟩:=o1.seg.shape
 subst e1
 have hfl:[F0,sgn ss].flatten=F0 ++ sgn ss:=by simp
 rw [hfl] at o1 ⊢
 clear hfl
 obtain ⟨F1,hF1⟩:∃F,F0 ++ sgn ss=F:=⟨_,rfl⟩
 rw [hF1] at o1 ⊢
 have B1:Hid (F1.length<=20/\F0 ++ sgn ss=F1):=⟨by
  have h1:=B0.out.1
  have h2:(sgn ss).length<=10:=bf HL.out.2.s0 HL.out.2.s1
  rw [<-hF1,List.length_append];omega,hF1⟩
 clear hF1
 obtain ⟨n1,hn1⟩:∃n,F1.length=n:=⟨_,rfl⟩
 rw [hn1] at o1 ⊢
 clear hn1
 have H5:Hid (Blk q0 w.heap.size 32 #[.int .i64 3,.int .i64 tk,.int .i64 ss,.int .i64 nb,.int .i64 mk,.slice ao n cp]/\w.grownBy q0 none/\Own q0 (w.heap.size+1) (.slice x1 n1 y1) F1):=by
  have ga:=World.grownBy_alloc p0 (.cells #[(.slice x0 n0 y0),.slice s0 (Wire.ai (Wire.bX ss)).length t0] 23) none
  exact ⟨(H4.out.1.grown ga (by simp)).grown g1 (by simp),aa (aa H4.out.2.1 ga) g1,Own.mono o1 (by have:=H4.out.2.2.2.2;have:=ga.size;omega)⟩
 clear o1 g1 H4
 have H3:=H5
 clear H5
 go_wp2_with fail
 rw [rounds_succ]
 go_wp2_with fail
 rw [rounds_succ]
 go_wp2_with fail
 rw [rounds_succ]
 have a9:=H3.out.1.cell 0
 have a8:=H3.out.1.cell 5
 simp at a9 a8
 go_wp2_with fail
 go_ret2
 have hok:okC (⟨3,tk,ss,nb,mk,l⟩:PCmd)=true:=by unfold okC;rw [HF.out];simp
 refine ⟨_,by rw [chkC,if_pos hok];rfl,?_,H3.out.2.1⟩
 rw [if_pos hok]
 have hE:aS (⟨3,tk,ss,nb,mk,l⟩:PCmd)=F1:=by
  rw [<-B1.out.2,<-B0.out.2]
  simp [aS,cB,dn,dA]
 rw [hE]
 exact Own.mono H3.out.2.2 (by omega)
theorem pJ (ao:Option Addr)(n cp:Nat)(tk ss nb mk:Int)(l:List POp)(w:World)(hl:Ops w (.slice ao n cp) l)(hI:InC (⟨4,tk,ss,nb,mk,l⟩:PCmd))(hf:fitC (⟨4,tk,ss,nb,mk,l⟩:PCmd)=true):Calls Tryz.prog 37 #[cmdV (.slice ao n cp) (⟨4,tk,ss,nb,mk,l⟩:PCmd)] w (jh (⟨4,tk,ss,nb,mk,l⟩:PCmd) w):=by
 have HL:Hid (Ops w (.slice ao n cp) l/\InC (⟨4,tk,ss,nb,mk,l⟩:PCmd)):=⟨hl,hI⟩
 clear hl hI
 simp only [cmdV]
 have i0:=ix0
 have i1:=ix1
 have i2:=ix2
 go_enter Tryz.func37,Tryz.ntmps37
 go_wp2_with fail
 obtain ⟨W,hW,HW⟩:=al1 w #[.int .i64 4,.int .i64 tk,.int .i64 ss,.int .i64 nb,.int .i64 mk,.slice ao n cp] 32
 rw [hW]
 clear hW
 refine (jg (.slice ao n cp) (⟨4,tk,ss,nb,mk,l⟩:PCmd) W (HL.out.1.grown HW.out.2.1)).mono ?_
 rintro e w1 ⟨rfl,gg1⟩
 rw [hf]
 have H1:Hid (Blk w1 w.heap.size 32 #[.int .i64 4,.int .i64 tk,.int .i64 ss,.int .i64 nb,.int .i64 mk,.slice ao n cp]/\w.grownBy w1 none/\w.heap.size<w1.heap.size):=⟨HW.out.1.grown gg1 (by simp),aa HW.out.2.1 gg1,by have:=gg1.size;have:=HW.out.2.2;omega⟩
 clear gg1 HW
 have HF:Hid (fitC (⟨4,tk,ss,nb,mk,l⟩:PCmd)=true):=hf
 clear hf
 have c0:=H1.out.1.cell 0
 simp at c0
 go_wp2_with fail
 refine (Wire.aQ _ 4 rfl (by decide) _).mono ?_
 rintro e w2 ⟨u0,rfl,o0,gg2⟩
 obtain ⟨x0,y0,e0⟩:=o0.seg.shape
 subst e0
 have H2:Hid (Blk w2 w.heap.size 32 #[.int .i64 4,.int .i64 tk,.int .i64 ss,.int .i64 nb,.int .i64 mk,.slice ao n cp]/\w.grownBy w2 none/\Own w2 (w.heap.size+1) (.slice x0 (Wire.ai 4).length y0) (Wire.ai 4)):=⟨H1.out.1.grown gg2 (by simp),aa H1.out.2.1 gg2,Own.mono o0 H1.out.2.2⟩
 clear gg2 o0 H1 c0
 obtain ⟨F0,hF0⟩:∃F,Wire.ai 4=F:=⟨_,rfl⟩
 have B0:Hid (F0.length<=10/\Wire.ai 4=F0):=⟨by rw [<-hF0];exact Wire.ay _ (by decide),hF0⟩
 rw [hF0] at H2 ⊢
 clear hF0
 obtain ⟨n0,hn0⟩:∃n,F0.length=n:=⟨_,rfl⟩
 rw [hn0] at H2 ⊢
 have N0:Hid (F0.length=n0):=hn0
 clear hn0
 go_wp2_with fail
 refine (fE w.heap.size (.slice ao n cp) (⟨4,tk,ss,nb,mk,l⟩:PCmd) w2 H2.out.1 rfl).mono ?_
 rintro e w3 ⟨rfl,gg3⟩
 have H3:Hid (Blk w3 w.heap.size 32 #[.int .i64 4,.int .i64 tk,.int .i64 ss,.int .i64 nb,.int .i64 mk,.slice ao n cp]/\w.grownBy w3 none/\Own w3 (w.heap.size+1) (.slice x0 n0 y0) F0):=⟨H2.out.1.grown gg3 (by simp),aa H2.out.2.1 gg3,H2.out.2.2.grown gg3⟩
 clear gg3 H2
 try unfold pt
 go_wp2_with fail
 refine wp_loop_rounds 4 ?_
 rw [rounds_succ]
 have a0:=H3.out.1.cell 2
 simp at a0
 go_wp2_with fail
 refine (Wire.eY ss HL.out.2.s0 HL.out.2.s1 _).mono ?_
 rintro e p0 ⟨r0,rfl,or0,gr0⟩
 obtain ⟨s0,t0,er0⟩:=or0.seg.shape
 subst er0
 have H4:Hid (Blk p0 w.heap.size 32 #[.int .i64 4,.int .i64 tk,.int .i64 ss,.int .i64 nb,.int .i64 mk,.slice ao n cp]/\w.grownBy p0 none/\Seg p0 (.slice x0 n0 y0) F0/\Seg p0 (.slice s0 (Wire.ai (Wire.bX ss)).length t0) (sgn ss)/\w.heap.size+1<=p0.heap.size):=⟨H3.out.1.grown gr0 (by simp),aa H3.out.2.1 gr0,H3.out.2.2.seg.grown gr0,or0.seg,by have:=gr0.size;have:=H3.out.1.lt;omega⟩
 clear or0 gr0 H3 a0
 go_wp2_with fail
 refine (Wire.bO _ [F0,sgn ss] _ (Wire.ch H4.out.2.2.1 H4.out.2.2.2.1) ?_).mono ?_
 ·have h1:=B0.out.1
  have h2:(sgn ss).length<=10:=bf HL.out.2.s0 HL.out.2.s1
  simp;omega
 rintro e q0 ⟨u1,rfl,o1,g1⟩
 obtain ⟨x1,y1,e1⟩:=o1.seg.shape
 subst e1
 have hfl:[F0,sgn ss].flatten=F0 ++ sgn ss:=by simp
 rw [hfl] at o1 ⊢
 clear hfl
 obtain ⟨F1,hF1⟩:∃F,F0 ++ sgn ss=F:=⟨_,rfl⟩
 rw [hF1] at o1 ⊢
 have B1:Hid (F1.length<=20/\F0 ++ sgn ss=F1):=⟨by
  have h1:=B0.out.1
  have h2:(sgn ss).length<=10:=bf HL.out.2.s0 HL.out.2.s1
  rw [<-hF1,List.length_append];omega,hF1⟩
 clear hF1
 obtain ⟨n1,hn1⟩:∃n,F1.length=n:=⟨_,rfl⟩
 rw [hn1] at o1 ⊢
 clear hn1
 have H5:Hid (Blk q0 w.heap.size 32 #[.int .i64 4,.int .i64 tk,.int .i64 ss,.int .i64 nb,.int .i64 mk,.slice ao n cp]/\w.grownBy q0 none/\Own q0 (w.heap.size+1) (.slice x1 n1 y1) F1):=by
  have ga:=World.grownBy_alloc p0 (.cells #[(.slice x0 n0 y0),.slice s0 (Wire.ai (Wire.bX ss)).length t0] 23) none
  exact ⟨(H4.out.1.grown ga (by simp)).grown g1 (by simp),aa (aa H4.out.2.1 ga) g1,Own.mono o1 (by have:=H4.out.2.2.2.2;have:=ga.size;omega)⟩
 clear o1 g1 H4
 have H3:=H5
 clear H5
 go_wp2_with fail
 rw [rounds_succ]
 go_wp2_with fail
 rw [rounds_succ]
 go_wp2_with fail
 rw [rounds_succ]
 have a9:=H3.out.1.cell 0
 have a8:=H3.out.1.cell 5
 simp at a9 a8
 go_wp2_with fail
 go_ret2
 have hok:okC (⟨4,tk,ss,nb,mk,l⟩:PCmd)=true:=by unfold okC;rw [HF.out];simp
 refine ⟨_,by rw [chkC,if_pos hok];rfl,?_,H3.out.2.1⟩
 rw [if_pos hok]
 have hE:aS (⟨4,tk,ss,nb,mk,l⟩:PCmd)=F1:=by
  rw [<-B1.out.2,<-B0.out.2]
  simp [aS,cB,dn,dA]
 rw [hE]
 exact Own.mono H3.out.2.2 (by omega)
theorem oA (ov:Value)(c:PCmd)(w:World)(h:Ops w ov c.ops)(hI:InC c):Calls Tryz.prog 37 #[cmdV ov c] w (jh c w):=by
 by_cases hf:fitC c=true
 ·have hk:=dQ hf
  obtain ⟨ao,n,cp,rfl,_⟩:=aX h
  obtain ⟨k,tk,ss,nb,mk,l⟩:=c
  simp only at hk
  rcases (show k=1\/k=2\/k=3\/k=4 by omega) with rfl | rfl | rfl | rfl
  ·exact pG ao n cp tk ss nb mk l w h hI hf
  ·exact pH ao n cp tk ss nb mk l w h hI hf
  ·exact pI ao n cp tk ss nb mk l w h hI hf
  ·exact pJ ao n cp tk ss nb mk l w h hI hf
 ·have hf':fitC c=false:=by simpa using hf
  have hno:okC c=false:=by unfold okC;rw [hf'];rfl
  refine (nx ov c w h hf').mono ?_
  rintro e w' ⟨u,rfl,o,g⟩
  refine ⟨u,by rw [chkC,if_neg (by rw [hno];decide)],?_,g⟩
  rw [if_neg (by rw [hno];decide)]
  exact o
theorem oB (ov:Value)(c:PCmd)(w:World)(h:Ops w ov c.ops)(hI:InC c):Calls Tryz.prog 115 #[cmdV ov c] w fun e w'=>e=.returned (.int .i64 (chkC c))/\w.grownBy w' none:=by
 obtain ⟨ao,n,cp,rfl,_,_,HL⟩:=aX h
 have HI:Hid (InC c):=hI
 clear h hI
 unfold cmdV
 go_enter Tryz.func115,Tryz.ntmps115
 go_wp2_with fail
 obtain ⟨W,hW,HW⟩:=al1 w (cmdA (.slice ao n cp) c) 32
 unfold cmdA at hW
 rw [hW]
 clear hW
 refine (oA (.slice ao n cp) c W (HL.out.grown HW.out.2.1) HI.out).mono ?_
 rintro e w1 ⟨u,rfl,o,g1⟩
 obtain ⟨x,y,e⟩:=o.seg.shape
 clear o
 generalize (if okC c=true then aS c else []).length=nl at e
 subst e
 have G:Hid (w.grownBy w1 none):=aa HW.out.2.1 g1
 clear g1 HW
 go_wp2_with fail
 go_ret
 exact ⟨rfl,G.out⟩
theorem dX (L:Bs):(Wire.scan 0 0 L=none/\Wire.aT L=(0,4,L)/\pSgn L=none/\∀m,pNum m L=none)\/∃n k,Wire.scan 0 0 L=some (n,k)/\n<18446744073709551616/\Wire.aT L=(n,0,L.drop k)/\pSgn L=some (Wire.bI n,L.drop k)/\∀m,pNum m L=if n<=m then some (n,L.drop k) else none:=by
 cases h:Wire.scan 0 0 L with
 | none=>exact .inl ⟨rfl,Wire.ee h,by unfold pSgn pNum;rw [h];rfl,fun m=>by unfold pNum;rw [h]⟩
 | some x =>
  obtain ⟨n,k⟩:=x
  have hl:=Wire.ip L
  rw [Wire.dc h] at hl
  refine .inr ⟨n,k,rfl,by simpa using hl,Wire.dc h,?_,fun m=>by unfold pNum;rw [h]⟩
  unfold pSgn pNum
  rw [h]
  simp only at hl ⊢
  rw [if_pos (by omega)]
  rfl
theorem q_ (b:Nat)(L:Bs)(w:World)(hr:RR w b L):Calls Tryz.prog 105 #[.pointer (some ⟨b,0,none⟩)] w fun e w'=>e=.returned (.tuple #[.int .u64 (Wire.aT L).1,.int .i64 (Wire.aT L).2.1])/\RR w' b (Wire.aT L).2.2/\w.grownBy w' (some b):=by
 obtain ⟨g,h1,h2⟩:=ka hr
 refine (Wire.gQ b g L w h1).mono ?_
 rintro e w' ⟨rfl,h3,h4⟩
 refine ⟨rfl,h2 _ _ h3 h4 (fun e=>?_),h4⟩
 subst e
 rcases dX [] with ⟨_,e,_⟩ | ⟨n,k,_,_,e,_⟩ <;> rw [e] <;> simp
theorem vO (b:Nat)(L:Bs)(w:World)(hr:RR w b L):Calls Tryz.prog 150 #[.pointer (some ⟨b,0,none⟩)] w fun e w'=>e=.returned (.tuple #[.int .i64 (Wire.bI (Wire.aT L).1),.int .i64 (Wire.aT L).2.1])/\RR w' b (Wire.aT L).2.2/\w.grownBy w' (some b) :=
 Wire.mE b _ _ _ w (by have:=Wire.ip L;omega) (q_ b L w hr)
def tr (b:Nat)(L:Bs)(w:World)(e:Ending)(w':World):Prop:=(∃v M,pSgn L=some (v,M)/\e=.returned (.tuple #[.int .i64 v,.int .i64 0])/\RR w' b M/\w.grownBy w' (some b))\/(pSgn L=none/\e=.returned (.tuple #[.int .i64 0,.int .i64 4])/\w.grownBy w' (some b))
theorem sgnR (b:Nat)(L:Bs)(w:World)(hr:RR w b L):Calls Tryz.prog 150 #[.pointer (some ⟨b,0,none⟩)] w (tr b L w):=by
 refine (vO b L w hr).mono ?_
 rintro e w' ⟨rfl,h1,h2⟩
 rcases dX L with ⟨_,e,e2,_⟩ | ⟨n,k,_,_,e,e2,_⟩
 ·rw [e]
  exact .inr ⟨e2,by simp [Wire.bI],h2⟩
 ·rw [e] at h1 ⊢
  exact .inl ⟨_,_,e2,rfl,h1,h2⟩
def br (k:Int)(L:Bs):Option (PCmd × Bs) :=
 if k=1 then (pSgn L).bind fun t=>some (⟨1,t.1,0,0,0,[]⟩,t.2)
 else if k=2 then (pSgn L).bind fun s=>(pSgn s.2).bind fun n=>(pSgn n.2).bind fun m=>some (⟨2,0,s.1,n.1,m.1,[]⟩,m.2)
 else if k=3\/k=4 then (pSgn L).bind fun s=>some (⟨k,0,s.1,0,0,[]⟩,s.2)
 else some (⟨k,0,0,0,0,[]⟩,L)
def nil0:Value:=.slice none 0 0
def eO (b cb:Nat)(r:Option (PCmd × Bs))(w:World)(e:Ending)(w':World):Prop:=(∃c M,r=some (c,M)/\e=.returned (.int .i64 0)/\RR w' b M/\CB w' cb nil0 c/\Fr w w' (fun i=>i=b\/i=cb))\/(r=none/\e=.returned (.int .i64 4)/\(∃c,CB w' cb nil0 c)/\Fr w w' (fun i=>i=b\/i=cb))
theorem dH {w w':World}{b cb:Nat}(h:w.grownBy w' (some b)):Fr w w' (fun i=>i=b\/i=cb):=Fr.of h (fun k hk=>by simp at hk;exact .inl hk.symm)
theorem fW {w w':World}{b cb:Nat}(h:w.grownBy w' (some cb)):Fr w w' (fun i=>i=b\/i=cb):=Fr.of h (fun k hk=>by simp at hk;exact .inr hk.symm)
theorem dl {w w':World}{F:Nat->Prop}(h:w.grownBy w' none):Fr w w' F:=Fr.of h (fun k hk=>by cases hk)
theorem dp {a b c:World}{F:Nat->Prop}(h:Fr a b F)(k:Fr b c F):Fr a c F:=h.trans k (fun _ hi=>.inl hi)
theorem rd (b cb:Nat)(L:Bs)(w:World)(hr:RR w b L)(hc:CB w cb nil0 (⟨1,0,0,0,0,[]⟩:PCmd)):Calls Tryz.prog 149 #[.pointer (some ⟨cb,0,none⟩),.func (.func 150) #[.pointer (some ⟨b,0,none⟩)] #[]] w (eO b cb (br 1 L) w):=by
 have HR:Hid (RR w b L/\Blk w cb 32 #[.int .i64 1,.int .i64 0,.int .i64 0,.int .i64 0,.int .i64 0,.slice none 0 0]):=⟨hr,hc⟩
 clear hr hc
 have i0:=ix0
 have i1:=ix1
 have i2:=ix2
 go_enter Tryz.func149,Tryz.ntmps149
 go_wp2_with fail
 refine (dB cb nil0 (⟨1,0,0,0,0,[]⟩:PCmd) w HR.out.2 rfl).mono ?_
 rintro e w1 ⟨rfl,g1⟩
 have H:Hid (RR w1 b L/\Blk w1 cb 32 #[.int .i64 1,.int .i64 0,.int .i64 0,.int .i64 0,.int .i64 0,.slice none 0 0]/\Fr w w1 (fun i=>i=b\/i=cb)):=⟨HR.out.1.grown g1,HR.out.2.grown g1 (by simp),dl g1⟩
 clear g1 HR
 try unfold pt
 go_wp2_with fail
 refine wp_loop_rounds 4 ?_
 rw [rounds_succ]
 go_wp2_with fail
 refine (sgnR b L w1 H.out.1).mono ?_
 rintro e p0 h
 rcases h with ⟨v0,M0,hs0,rfl,hR,hg⟩ | ⟨hs0,rfl,hg⟩
 rotate_left
 ·have hN:br 1 L=none:=by unfold br;rw [if_pos rfl];simp [hs0]
  have F:Hid (br 1 L=none/\CB p0 cb nil0 (⟨1,0,0,0,0,[]⟩:PCmd)/\Fr w p0 (fun i=>i=b\/i=cb)):=⟨hN,H.out.2.1.grown hg (fun e=>by simp at e;exact H.out.1.ne H.out.2.1 (by decide) e.symm),dp H.out.2.2 (dH hg)⟩
  clear hN hg hs0
  go_wp2_with fail
  go_ret
  exact .inr ⟨F.out.1,rfl,⟨_,F.out.2.1⟩,F.out.2.2⟩
 have H2:Hid (RR p0 b M0/\Blk p0 cb 32 #[.int .i64 1,.int .i64 0,.int .i64 0,.int .i64 0,.int .i64 0,.slice none 0 0]/\Fr w p0 (fun i=>i=b\/i=cb)):=⟨hR,H.out.2.1.grown hg (fun e=>by simp at e;exact H.out.1.ne H.out.2.1 (by decide) e.symm),dp H.out.2.2 (dH hg)⟩
 have S0:Hid (pSgn L=some (v0,M0)):=hs0
 clear hR hg hs0 H
 have a0:=H2.out.2.1.cell 1
 have z0:=H2.out.2.1.free 1
 simp at a0
 go_wp2_with fail
 have H3:Hid (RR (p0.setCell ⟨cb,1,none⟩ (.int .i64 v0)) b M0/\Blk (p0.setCell ⟨cb,1,none⟩ (.int .i64 v0)) cb 32 #[.int .i64 1,.int .i64 v0,.int .i64 0,.int .i64 0,.int .i64 0,.slice none 0 0]/\Fr w (p0.setCell ⟨cb,1,none⟩ (.int .i64 v0)) (fun i=>i=b\/i=cb)):=⟨H2.out.1.set H2.out.2.1 (ae _ _ _ _) (by decide) (by decide),H2.out.2.1.store 1 _,dp H2.out.2.2 (fW (ae _ _ _ _))⟩
 generalize (p0.setCell ⟨cb,1,none⟩ (.int .i64 v0))=x0 at H3 ⊢
 clear H2 a0 z0
 have H:=H3
 clear H3
 rw [rounds_succ]
 go_wp2_with fail
 go_ret
 refine .inl ⟨(⟨1,v0,0,0,0,[]⟩:PCmd),M0,?_,rfl,H.out.1,H.out.2.1,H.out.2.2⟩
 unfold br
 rw [if_pos rfl]
 try simp [S0.out]
theorem re (b cb:Nat)(L:Bs)(w:World)(hr:RR w b L)(hc:CB w cb nil0 (⟨2,0,0,0,0,[]⟩:PCmd)):Calls Tryz.prog 149 #[.pointer (some ⟨cb,0,none⟩),.func (.func 150) #[.pointer (some ⟨b,0,none⟩)] #[]] w (eO b cb (br 2 L) w):=by
 have HR:Hid (RR w b L/\Blk w cb 32 #[.int .i64 2,.int .i64 0,.int .i64 0,.int .i64 0,.int .i64 0,.slice none 0 0]):=⟨hr,hc⟩
 clear hr hc
 have i0:=ix0
 have i1:=ix1
 have i2:=ix2
 go_enter Tryz.func149,Tryz.ntmps149
 go_wp2_with fail
 refine (dD cb nil0 (⟨2,0,0,0,0,[]⟩:PCmd) w HR.out.2 rfl).mono ?_
 rintro e w1 ⟨rfl,g1⟩
 have H:Hid (RR w1 b L/\Blk w1 cb 32 #[.int .i64 2,.int .i64 0,.int .i64 0,.int .i64 0,.int .i64 0,.slice none 0 0]/\Fr w w1 (fun i=>i=b\/i=cb)):=⟨HR.out.1.grown g1,HR.out.2.grown g1 (by simp),dl g1⟩
 clear g1 HR
 try unfold pt
 go_wp2_with fail
 refine wp_loop_rounds 4 ?_
 rw [rounds_succ]
 go_wp2_with fail
 refine (sgnR b L w1 H.out.1).mono ?_
 rintro e p0 h
 rcases h with ⟨v0,M0,hs0,rfl,hR,hg⟩ | ⟨hs0,rfl,hg⟩
 rotate_left
 ·have hN:br 2 L=none:=by unfold br;rw [if_neg (by decide),if_pos rfl];simp [hs0]
  have F:Hid (br 2 L=none/\CB p0 cb nil0 (⟨2,0,0,0,0,[]⟩:PCmd)/\Fr w p0 (fun i=>i=b\/i=cb)):=⟨hN,H.out.2.1.grown hg (fun e=>by simp at e;exact H.out.1.ne H.out.2.1 (by decide) e.symm),dp H.out.2.2 (dH hg)⟩
  clear hN hg hs0
  go_wp2_with fail
  go_ret
  exact .inr ⟨F.out.1,rfl,⟨_,F.out.2.1⟩,F.out.2.2⟩
 have H2:Hid (RR p0 b M0/\Blk p0 cb 32 #[.int .i64 2,.int .i64 0,.int .i64 0,.int .i64 0,.int .i64 0,.slice none 0 0]/\Fr w p0 (fun i=>i=b\/i=cb)):=⟨hR,H.out.2.1.grown hg (fun e=>by simp at e;exact H.out.1.ne H.out.2.1 (by decide) e.symm),dp H.out.2.2 (dH hg)⟩
 have S0:Hid (pSgn L=some (v0,M0)):=hs0
 clear hR hg hs0 H
 have a0:=H2.out.2.1.cell 2
 have z0:=H2.out.2.1.free 2
 simp at a0
 go_wp2_with fail
 have H3:Hid (RR (p0.setCell ⟨cb,2,none⟩ (.int .i64 v0)) b M0/\Blk (p0.setCell ⟨cb,2,none⟩ (.int .i64 v0)) cb 32 #[.int .i64 2,.int .i64 0,.int .i64 v0,.int .i64 0,.int .i64 0,.slice none 0 0]/\Fr w (p0.setCell ⟨cb,2,none⟩ (.int .i64 v0)) (fun i=>i=b\/i=cb)):=⟨H2.out.1.set H2.out.2.1 (ae _ _ _ _) (by decide) (by decide),H2.out.2.1.store 2 _,dp H2.out.2.2 (fW (ae _ _ _ _))⟩
 generalize (p0.setCell ⟨cb,2,none⟩ (.int .i64 v0))=x0 at H3 ⊢
 clear H2 a0 z0
 have H:=H3
 clear H3
 rw [rounds_succ]
 go_wp2_with fail
 refine (sgnR b M0 x0 H.out.1).mono ?_
 rintro e p1 h
 rcases h with ⟨v1,M1,hs1,rfl,hR,hg⟩ | ⟨hs1,rfl,hg⟩
 rotate_left
 ·have hN:br 2 L=none:=by unfold br;rw [if_neg (by decide),if_pos rfl];simp [S0.out,hs1]
  have F:Hid (br 2 L=none/\CB p1 cb nil0 (⟨2,0,v0,0,0,[]⟩:PCmd)/\Fr w p1 (fun i=>i=b\/i=cb)):=⟨hN,H.out.2.1.grown hg (fun e=>by simp at e;exact H.out.1.ne H.out.2.1 (by decide) e.symm),dp H.out.2.2 (dH hg)⟩
  clear hN hg hs1
  go_wp2_with fail
  go_ret
  exact .inr ⟨F.out.1,rfl,⟨_,F.out.2.1⟩,F.out.2.2⟩
 have H2:Hid (RR p1 b M1/\Blk p1 cb 32 #[.int .i64 2,.int .i64 0,.int .i64 v0,.int .i64 0,.int .i64 0,.slice none 0 0]/\Fr w p1 (fun i=>i=b\/i=cb)):=⟨hR,H.out.2.1.grown hg (fun e=>by simp at e;exact H.out.1.ne H.out.2.1 (by decide) e.symm),dp H.out.2.2 (dH hg)⟩
 have S1:Hid (pSgn M0=some (v1,M1)):=hs1
 clear hR hg hs1 H
 have a1:=H2.out.2.1.cell 3
 have z1:=H2.out.2.1.free 3
 simp at a1
 go_wp2_with fail
 have H3:Hid (RR (p1.setCell ⟨cb,3,none⟩ (.int .i64 v1)) b M1/\Blk (p1.setCell ⟨cb,3,none⟩ (.int .i64 v1)) cb 32 #[.int .i64 2,.int .i64 0,.int .i64 v0,.int .i64 v1,.int .i64 0,.slice none 0 0]/\Fr w (p1.setCell ⟨cb,3,none⟩ (.int .i64 v1)) (fun i=>i=b\/i=cb)):=⟨H2.out.1.set H2.out.2.1 (ae _ _ _ _) (by decide) (by decide),H2.out.2.1.store 3 _,dp H2.out.2.2 (fW (ae _ _ _ _))⟩
 generalize (p1.setCell ⟨cb,3,none⟩ (.int .i64 v1))=x1 at H3 ⊢
 clear H2 a1 z1
 have H:=H3
 clear H3
 rw [rounds_succ]
 go_wp2_with fail
 refine (sgnR b M1 x1 H.out.1).mono ?_
 rintro e p2 h
 rcases h with ⟨v2,M2,hs2,rfl,hR,hg⟩ | ⟨hs2,rfl,hg⟩
 rotate_left
 ·have hN:br 2 L=none:=by unfold br;rw [if_neg (by decide),if_pos rfl];simp [S0.out,S1.out,hs2]
  have F:Hid (br 2 L=none/\CB p2 cb nil0 (⟨2,0,v0,v1,0,[]⟩:PCmd)/\Fr w p2 (fun i=>i=b\/i=cb)):=⟨hN,H.out.2.1.grown hg (fun e=>by simp at e;exact H.out.1.ne H.out.2.1 (by decide) e.symm),dp H.out.2.2 (dH hg)⟩
  clear hN hg hs2
  go_wp2_with fail
  go_ret
  exact .inr ⟨F.out.1,rfl,⟨_,F.out.2.1⟩,F.out.2.2⟩
 have H2:Hid (RR p2 b M2/\Blk p2 cb 32 #[.int .i64 2,.int .i64 0,.int .i64 v0,.int .i64 v1,.int .i64 0,.slice none 0 0]/\Fr w p2 (fun i=>i=b\/i=cb)):=⟨hR,H.out.2.1.grown hg (fun e=>by simp at e;exact H.out.1.ne H.out.2.1 (by decide) e.symm),dp H.out.2.2 (dH hg)⟩
 have S2:Hid (pSgn M1=some (v2,M2)):=hs2
 clear hR hg hs2 H
 have a2:=H2.out.2.1.cell 4
 have z2:=H2.out.2.1.free 4
 simp at a2
 go_wp2_with fail
 have H3:Hid (RR (p2.setCell ⟨cb,4,none⟩ (.int .i64 v2)) b M2/\Blk (p2.setCell ⟨cb,4,none⟩ (.int .i64 v2)) cb 32 #[.int .i64 2,.int .i64 0,.int .i64 v0,.int .i64 v1,.int .i64 v2,.slice none 0 0]/\Fr w (p2.setCell ⟨cb,4,none⟩ (.int .i64 v2)) (fun i=>i=b\/i=cb)):=⟨H2.out.1.set H2.out.2.1 (ae _ _ _ _) (by decide) (by decide),H2.out.2.1.store 4 _,dp H2.out.2.2 (fW (ae _ _ _ _))⟩
 generalize (p2.setCell ⟨cb,4,none⟩ (.int .i64 v2))=x2 at H3 ⊢
 clear H2 a2 z2
 have H:=H3
 clear H3
 rw [rounds_succ]
 go_wp2_with fail
 go_ret
 refine .inl ⟨(⟨2,0,v0,v1,v2,[]⟩:PCmd),M2,?_,rfl,H.out.1,H.out.2.1,H.out.2.2⟩
 unfold br
 rw [if_neg (by decide),if_pos rfl]
 try simp [S0.out,S1.out,S2.out]
theorem rg (b cb:Nat)(L:Bs)(w:World)(hr:RR w b L)(hc:CB w cb nil0 (⟨3,0,0,0,0,[]⟩:PCmd)):Calls Tryz.prog 149 #[.pointer (some ⟨cb,0,none⟩),.func (.func 150) #[.pointer (some ⟨b,0,none⟩)] #[]] w (eO b cb (br 3 L) w):=by
 have HR:Hid (RR w b L/\Blk w cb 32 #[.int .i64 3,.int .i64 0,.int .i64 0,.int .i64 0,.int .i64 0,.slice none 0 0]):=⟨hr,hc⟩
 clear hr hc
 have i0:=ix0
 have i1:=ix1
 have i2:=ix2
 go_enter Tryz.func149,Tryz.ntmps149
 go_wp2_with fail
 refine (fD cb nil0 (⟨3,0,0,0,0,[]⟩:PCmd) w HR.out.2 rfl).mono ?_
 rintro e w1 ⟨rfl,g1⟩
 have H:Hid (RR w1 b L/\Blk w1 cb 32 #[.int .i64 3,.int .i64 0,.int .i64 0,.int .i64 0,.int .i64 0,.slice none 0 0]/\Fr w w1 (fun i=>i=b\/i=cb)):=⟨HR.out.1.grown g1,HR.out.2.grown g1 (by simp),dl g1⟩
 clear g1 HR
 try unfold pt
 go_wp2_with fail
 refine wp_loop_rounds 4 ?_
 rw [rounds_succ]
 go_wp2_with fail
 refine (sgnR b L w1 H.out.1).mono ?_
 rintro e p0 h
 rcases h with ⟨v0,M0,hs0,rfl,hR,hg⟩ | ⟨hs0,rfl,hg⟩
 rotate_left
 ·have hN:br 3 L=none:=by unfold br;rw [if_neg (by decide),if_neg (by decide),if_pos (by decide)];simp [hs0]
  have F:Hid (br 3 L=none/\CB p0 cb nil0 (⟨3,0,0,0,0,[]⟩:PCmd)/\Fr w p0 (fun i=>i=b\/i=cb)):=⟨hN,H.out.2.1.grown hg (fun e=>by simp at e;exact H.out.1.ne H.out.2.1 (by decide) e.symm),dp H.out.2.2 (dH hg)⟩
  clear hN hg hs0
  go_wp2_with fail
  go_ret
  exact .inr ⟨F.out.1,rfl,⟨_,F.out.2.1⟩,F.out.2.2⟩
 have H2:Hid (RR p0 b M0/\Blk p0 cb 32 #[.int .i64 3,.int .i64 0,.int .i64 0,.int .i64 0,.int .i64 0,.slice none 0 0]/\Fr w p0 (fun i=>i=b\/i=cb)):=⟨hR,H.out.2.1.grown hg (fun e=>by simp at e;exact H.out.1.ne H.out.2.1 (by decide) e.symm),dp H.out.2.2 (dH hg)⟩
 have S0:Hid (pSgn L=some (v0,M0)):=hs0
 clear hR hg hs0 H
 have a0:=H2.out.2.1.cell 2
 have z0:=H2.out.2.1.free 2
 simp at a0
 go_wp2_with fail
 have H3:Hid (RR (p0.setCell ⟨cb,2,none⟩ (.int .i64 v0)) b M0/\Blk (p0.setCell ⟨cb,2,none⟩ (.int .i64 v0)) cb 32 #[.int .i64 3,.int .i64 0,.int .i64 v0,.int .i64 0,.int .i64 0,.slice none 0 0]/\Fr w (p0.setCell ⟨cb,2,none⟩ (.int .i64 v0)) (fun i=>i=b\/i=cb)):=⟨H2.out.1.set H2.out.2.1 (ae _ _ _ _) (by decide) (by decide),H2.out.2.1.store 2 _,dp H2.out.2.2 (fW (ae _ _ _ _))⟩
 generalize (p0.setCell ⟨cb,2,none⟩ (.int .i64 v0))=x0 at H3 ⊢
 clear H2 a0 z0
 have H:=H3
 clear H3
 rw [rounds_succ]
 go_wp2_with fail
 go_ret
 refine .inl ⟨(⟨3,0,v0,0,0,[]⟩:PCmd),M0,?_,rfl,H.out.1,H.out.2.1,H.out.2.2⟩
 unfold br
 rw [if_neg (by decide),if_neg (by decide),if_pos (by decide)]
 try simp [S0.out]
theorem rh (b cb:Nat)(L:Bs)(w:World)(hr:RR w b L)(hc:CB w cb nil0 (⟨4,0,0,0,0,[]⟩:PCmd)):Calls Tryz.prog 149 #[.pointer (some ⟨cb,0,none⟩),.func (.func 150) #[.pointer (some ⟨b,0,none⟩)] #[]] w (eO b cb (br 4 L) w):=by
 have HR:Hid (RR w b L/\Blk w cb 32 #[.int .i64 4,.int .i64 0,.int .i64 0,.int .i64 0,.int .i64 0,.slice none 0 0]):=⟨hr,hc⟩
 clear hr hc
 have i0:=ix0
 have i1:=ix1
 have i2:=ix2
 go_enter Tryz.func149,Tryz.ntmps149
 go_wp2_with fail
 refine (fE cb nil0 (⟨4,0,0,0,0,[]⟩:PCmd) w HR.out.2 rfl).mono ?_
 rintro e w1 ⟨rfl,g1⟩
 have H:Hid (RR w1 b L/\Blk w1 cb 32 #[.int .i64 4,.int .i64 0,.int .i64 0,.int .i64 0,.int .i64 0,.slice none 0 0]/\Fr w w1 (fun i=>i=b\/i=cb)):=⟨HR.out.1.grown g1,HR.out.2.grown g1 (by simp),dl g1⟩
 clear g1 HR
 try unfold pt
 go_wp2_with fail
 refine wp_loop_rounds 4 ?_
 rw [rounds_succ]
 go_wp2_with fail
 refine (sgnR b L w1 H.out.1).mono ?_
 rintro e p0 h
 rcases h with ⟨v0,M0,hs0,rfl,hR,hg⟩ | ⟨hs0,rfl,hg⟩
 rotate_left
 ·have hN:br 4 L=none:=by unfold br;rw [if_neg (by decide),if_neg (by decide),if_pos (by decide)];simp [hs0]
  have F:Hid (br 4 L=none/\CB p0 cb nil0 (⟨4,0,0,0,0,[]⟩:PCmd)/\Fr w p0 (fun i=>i=b\/i=cb)):=⟨hN,H.out.2.1.grown hg (fun e=>by simp at e;exact H.out.1.ne H.out.2.1 (by decide) e.symm),dp H.out.2.2 (dH hg)⟩
  clear hN hg hs0
  go_wp2_with fail
  go_ret
  exact .inr ⟨F.out.1,rfl,⟨_,F.out.2.1⟩,F.out.2.2⟩
 have H2:Hid (RR p0 b M0/\Blk p0 cb 32 #[.int .i64 4,.int .i64 0,.int .i64 0,.int .i64 0,.int .i64 0,.slice none 0 0]/\Fr w p0 (fun i=>i=b\/i=cb)):=⟨hR,H.out.2.1.grown hg (fun e=>by simp at e;exact H.out.1.ne H.out.2.1 (by decide) e.symm),dp H.out.2.2 (dH hg)⟩
 have S0:Hid (pSgn L=some (v0,M0)):=hs0
 clear hR hg hs0 H
 have a0:=H2.out.2.1.cell 2
 have z0:=H2.out.2.1.free 2
 simp at a0
 go_wp2_with fail
 have H3:Hid (RR (p0.setCell ⟨cb,2,none⟩ (.int .i64 v0)) b M0/\Blk (p0.setCell ⟨cb,2,none⟩ (.int .i64 v0)) cb 32 #[.int .i64 4,.int .i64 0,.int .i64 v0,.int .i64 0,.int .i64 0,.slice none 0 0]/\Fr w (p0.setCell ⟨cb,2,none⟩ (.int .i64 v0)) (fun i=>i=b\/i=cb)):=⟨H2.out.1.set H2.out.2.1 (ae _ _ _ _) (by decide) (by decide),H2.out.2.1.store 2 _,dp H2.out.2.2 (fW (ae _ _ _ _))⟩
 generalize (p0.setCell ⟨cb,2,none⟩ (.int .i64 v0))=x0 at H3 ⊢
 clear H2 a0 z0
 have H:=H3
 clear H3
 rw [rounds_succ]
 go_wp2_with fail
 go_ret
 refine .inl ⟨(⟨4,0,v0,0,0,[]⟩:PCmd),M0,?_,rfl,H.out.1,H.out.2.1,H.out.2.2⟩
 unfold br
 rw [if_neg (by decide),if_neg (by decide),if_pos (by decide)]
 try simp [S0.out]
theorem ri (b cb:Nat)(k:Int)(L:Bs)(w:World)(hr:RR w b L)(hc:CB w cb nil0 (⟨k,0,0,0,0,[]⟩:PCmd))(h1:(k==1)=false)(h2:(k==2)=false)(h3:(k==3)=false)(h4:(k==4)=false):Calls Tryz.prog 149 #[.pointer (some ⟨cb,0,none⟩),.func (.func 150) #[.pointer (some ⟨b,0,none⟩)] #[]] w (eO b cb (br k L) w):=by
 have HR:Hid (RR w b L/\Blk w cb 32 #[.int .i64 k,.int .i64 0,.int .i64 0,.int .i64 0,.int .i64 0,.slice none 0 0]):=⟨hr,hc⟩
 clear hr hc
 have i0:=ix0
 have i1:=ix1
 have i2:=ix2
 go_enter Tryz.func149,Tryz.ntmps149
 go_wp2_with fail
 refine (eh cb nil0 (⟨k,0,0,0,0,[]⟩:PCmd) w HR.out.2 h1 h2 h3 h4).mono ?_
 rintro e w1 ⟨rfl,g1⟩
 have H:Hid (RR w1 b L/\Blk w1 cb 32 #[.int .i64 k,.int .i64 0,.int .i64 0,.int .i64 0,.int .i64 0,.slice none 0 0]/\Fr w w1 (fun i=>i=b\/i=cb)):=⟨HR.out.1.grown g1,HR.out.2.grown g1 (by simp),dl g1⟩
 clear g1 HR
 try unfold pt
 go_wp2_with fail
 refine wp_loop_rounds 4 ?_
 rw [rounds_succ]
 go_wp2_with fail
 go_ret
 refine .inl ⟨(⟨k,0,0,0,0,[]⟩:PCmd),L,?_,rfl,H.out.1,H.out.2.1,H.out.2.2⟩
 unfold br
 rw [if_neg (by simpa using h1),if_neg (by simpa using h2),if_neg (by have:=(by simpa using h3:¬k=3);have:=(by simpa using h4:¬k=4);omega)]
 try simp []
theorem uR (b cb:Nat)(k:Int)(L:Bs)(w:World)(hr:RR w b L)(hc:CB w cb nil0 ⟨k,0,0,0,0,[]⟩):Calls Tryz.prog 149 #[.pointer (some ⟨cb,0,none⟩),.func (.func 150) #[.pointer (some ⟨b,0,none⟩)] #[]] w (eO b cb (br k L) w):=by
 by_cases h1:k=1
 ·subst h1;exact rd b cb L w hr hc
 ·by_cases h2:k=2
  ·subst h2;exact re b cb L w hr hc
  ·by_cases h3:k=3
   ·subst h3;exact rg b cb L w hr hc
   ·by_cases h4:k=4
    ·subst h4;exact rh b cb L w hr hc
    ·exact ri b cb k L w hr hc (by simp [h1]) (by simp [h2]) (by simp [h3]) (by simp [h4])
def rawP (L:Bs):Option (PCmd × Bs):=(pNum 4 L).bind fun k=>(br k.1 k.2).bind fun f=>if k.1=2 then (aN 4096 f.2).bind fun b=>(cE b.1).bind fun l=>some (⟨2,0,f.1.session,f.1.number,f.1.mark,l⟩,b.2) else some f
theorem lG (L:Bs):pCmd L=(rawP L).bind fun x=>finC x.1 x.2:=by
 unfold pCmd rawP
 cases hk:pNum 4 L with
 | none=>rfl
 | some k =>
  have hk4:=(cq (n:=k.1) (M:=k.2) hk).2
  obtain ⟨a,M⟩:=k
  simp only at hk4
  rcases (show a=0\/a=1\/a=2\/a=3\/a=4 by omega) with rfl | rfl | rfl | rfl | rfl
  ·simp [br,finC]
   intro _
   decide
  ·simp [br,Option.bind_assoc]
  ·simp [br,Option.bind_assoc]
  ·simp [br,Option.bind_assoc]
  ·simp [br,Option.bind_assoc]
def ny (b:Nat)(L:Bs)(w:World)(e:Ending)(w':World):Prop:=(∃x M v,aN 4096 L=some (x,M)/\e=.returned (.tuple #[v,.int .i64 0])/\Own w' w.heap.size v x/\RR w' b M/\w.grownBy w' (some b))\/(aN 4096 L=none/\∃er v,((er==0)=false)/\e=.returned (.tuple #[v,.int .i64 er])/\Own w' w.heap.size v []/\w.grownBy w' (some b))
theorem uS (b:Nat)(L:Bs)(w:World)(hr:RR w b L)(hz:L.length<=140737488355328):Calls Tryz.prog 151 #[.pointer (some ⟨b,0,none⟩),.int .i64 4096] w (ny b L w):=by
 obtain ⟨g,h1,h2⟩:=ka hr
 refine (Wire.kJ b g L 4096 w h1 (by decide) hz).mono ?_
 rintro e w' ⟨v,rfl,ho,h3,h4⟩
 rcases dX L with ⟨hs,_,_,hp⟩ | ⟨n,k,hs,_,_,_,hp⟩
 ·have hn:aN 4096 L=none:=by unfold aN;rw [hp]
  rw [Wire.fx (by decide) hs] at ho ⊢
  exact .inr ⟨hn,_,_,rfl,rfl,ho,h4⟩
 ·by_cases hl:(4096:Int)<(n:Int)
  ·have hn:aN 4096 L=none:=by unfold aN;rw [hp,if_neg (by omega)]
   rw [Wire.fy (by decide) hs hl] at ho ⊢
   exact .inr ⟨hn,_,_,rfl,rfl,ho,h4⟩
  ·by_cases hf:(L.drop k).length<n
   ·have hn:aN 4096 L=none:=by unfold aN;rw [hp,if_pos (by omega)];simp only;rw [if_neg (by omega)]
    rw [Wire.fR (by decide) hs hl hf] at ho ⊢
    exact .inr ⟨hn,_,_,rfl,rfl,ho,h4⟩
   ·have hn:aN 4096 L=some ((L.drop k).take n,(L.drop k).drop n):=by unfold aN;rw [hp,if_pos (by omega)];simp only;rw [if_pos (by omega)]
    rw [Wire.gO (by decide) hs hl hf] at ho h3 ⊢
    exact .inl ⟨_,_,_,hn,rfl,ho,h2 _ _ h3 h4 (fun e=>by subst e;simp),h4⟩
theorem rj {w a c:World}{b cb:Nat}(h:Fr w a (fun i=>i=b))(k:Fr a c (fun i=>i=b\/i=cb))(hc:w.heap.size<=cb):Fr w c (fun i=>i=b):=h.trans k (by rintro i (rfl | rfl);exact .inl rfl;exact .inr hc)
theorem fr_b {w w':World}{b:Nat}(h:w.grownBy w' (some b)):Fr w w' (fun i=>i=b):=Fr.of h (fun k hk=>by simp at hk;exact hk.symm)
theorem fr_t {a b c:World}{F:Nat->Prop}(h:Fr a b F)(k:Fr b c F):Fr a c F:=h.trans k (fun _ hi=>.inl hi)
theorem nA {k:Int}{L M:Bs}{c:PCmd}(h:br k L=some (c,M)):c.kind=k/\c.ops=[]/\(k=2->c.token=0)/\M.length<=L.length:=by
 have hl:∀{L M:Bs} {v:Int},pSgn L=some (v,M)->M.length<=L.length:=fun h=>by rw [eN h,List.length_append];omega
 unfold br at h
 split at h
 ·rename_i e
  cases hs:pSgn L with
  | none=>rw [hs] at h;cases h
  | some t =>
   rw [hs] at h;simp at h;obtain ⟨rfl,rfl⟩:=h
   exact ⟨e.symm,rfl,fun e2=>by omega,hl (v:=t.1) (M:=t.2) hs⟩
 ·split at h
  ·rename_i e1 e
   cases hs:pSgn L with
   | none=>rw [hs] at h;cases h
   | some s =>
    rw [hs] at h;simp only [Option.bind_some] at h
    cases hn:pSgn s.2 with
    | none=>rw [hn] at h;cases h
    | some n =>
     rw [hn] at h;simp only [Option.bind_some] at h
     cases hm:pSgn n.2 with
     | none=>rw [hm] at h;cases h
     | some m =>
      rw [hm] at h;simp at h;obtain ⟨rfl,rfl⟩:=h
      have a1:=hl (v:=s.1) (M:=s.2) hs
      have a2:=hl (v:=n.1) (M:=n.2) hn
      have a3:=hl (v:=m.1) (M:=m.2) hm
      exact ⟨e.symm,rfl,fun _=>rfl,by omega⟩
  ·split at h
   ·rename_i e1 e2 e
    cases hs:pSgn L with
    | none=>rw [hs] at h;cases h
    | some s =>
     rw [hs] at h;simp at h;obtain ⟨rfl,rfl⟩:=h
     exact ⟨rfl,rfl,fun _=>rfl,hl (v:=s.1) (M:=s.2) hs⟩
   ·simp at h;obtain ⟨rfl,rfl⟩:=h
    exact ⟨rfl,rfl,fun _=>rfl,by omega⟩
def tu (b:Nat)(L:Bs)(w:World)(e:Ending)(w':World):Prop:=(∃c M ov,rawP L=some (c,M)/\e=.returned (.tuple #[cmdV ov c,.int .i64 0])/\aC w' w.heap.size ov c.ops/\RR w' b M/\Fr w w' (fun i=>i=b))\/(rawP L=none/\∃c ov er,((er==0)=false)/\e=.returned (.tuple #[cmdV ov c,.int .i64 er])/\(∃x n y,ov=.slice x n y)/\Fr w w' (fun i=>i=b))
theorem uT (b:Nat)(L:Bs)(w:World)(hr:RR w b L)(hz:L.length<=140737488355328):Calls Tryz.prog 128 #[.pointer (some ⟨b,0,none⟩)] w (tu b L w):=by
 have HR:Hid (RR w b L/\L.length<=140737488355328/\b<w.heap.size):=⟨hr,hz,by obtain ⟨s,hs⟩:=hr.blk;exact hs.lt⟩
 clear hr hz
 go_enter Tryz.func128,Tryz.ntmps128
 go_wp2_with fail
 obtain ⟨W,hW,HW⟩:=al1 w #[.int .i64 0,.int .i64 0,.int .i64 0,.int .i64 0,.int .i64 0,.slice none 0 0] 32
 rw [hW]
 clear hW
 refine (q_ b L W (HR.out.1.grown HW.out.2.1)).mono ?_
 rintro e w1 ⟨rfl,hR1,g1⟩
 have H1:Hid (RR w1 b (Wire.aT L).2.2/\Blk w1 w.heap.size 32 #[.int .i64 0,.int .i64 0,.int .i64 0,.int .i64 0,.int .i64 0,.slice none 0 0]/\Fr w w1 (fun i=>i=b)/\w.heap.size<w1.heap.size):=⟨hR1,HW.out.1.grown g1 (fun e=>by simp at e;have:=HR.out.2.2;omega),fr_t (dl HW.out.2.1) (fr_b g1),by have:=g1.size;have:=HW.out.2.2;omega⟩
 clear hR1 g1 HW
 rcases dX L with ⟨_,e0,_,hp⟩ | ⟨n,k,_,hn64,e0,_,hp⟩
 ·rw [e0] at H1 ⊢
  have HN:Hid (rawP L=none):=by unfold rawP Hid;rw [hp];rfl
  clear e0 hp
  simp only at H1 ⊢
  have r0:=H1.out.2.1.cell 0
  have r1:=H1.out.2.1.cell 1
  have r2:=H1.out.2.1.cell 2
  have r3:=H1.out.2.1.cell 3
  have r4:=H1.out.2.1.cell 4
  have r5:=H1.out.2.1.cell 5
  have z0:=H1.out.2.1.free 0
  have z1:=H1.out.2.1.free 1
  have z2:=H1.out.2.1.free 2
  have z3:=H1.out.2.1.free 3
  have z4:=H1.out.2.1.free 4
  have z5:=H1.out.2.1.free 5
  simp at r0 r1 r2 r3 r4 r5
  go_wp2_with fail
  obtain ⟨W6,hW6,H6⟩:=set6 H1.out.2.1 (.int .i64 0) (.int .i64 0) (.int .i64 0) (.int .i64 0) (.int .i64 0) (.slice none 0 0)
  rw [hW6]
  clear hW6
  have y0:=H6.out.1.cell 0
  have y1:=H6.out.1.cell 1
  have y2:=H6.out.1.cell 2
  have y3:=H6.out.1.cell 3
  have y4:=H6.out.1.cell 4
  have y5:=H6.out.1.cell 5
  simp at y0 y1 y2 y3 y4 y5
  have hfr:Fr w W6 (fun i=>i=b):=H1.out.2.2.1.trans (Fr.of H6.out.2 (F:=fun i=>i=w.heap.size) (fun k hk=>by simp at hk;exact hk.symm)) (fun i hi=>.inr (by rw [hi];exact Nat.le_refl _))
  exact bodyPost_ret (v:=.tuple #[.agg #[.int .i64 0,.int .i64 0,.int .i64 0,.int .i64 0,.int .i64 0,.slice none 0 0],.int .i64 4]) (by simp [results,Tryz.results128,go_sem,y0,y1,y2,y3,y4,y5]) rfl (.inr ⟨HN.out,bi,.slice none 0 0,4,rfl,rfl,⟨_,_,_,rfl⟩,hfr⟩)
 rw [e0] at H1 ⊢
 simp only at H1 ⊢
 by_cases h4:4<n
 ·have HN:Hid (rawP L=none):=by unfold rawP Hid;rw [hp,if_neg (by omega)];rfl
  have q4:((4:Int)<(n:Int))=True:=by simp;omega
  clear e0 hp h4
  have r0:=H1.out.2.1.cell 0
  have r1:=H1.out.2.1.cell 1
  have r2:=H1.out.2.1.cell 2
  have r3:=H1.out.2.1.cell 3
  have r4:=H1.out.2.1.cell 4
  have r5:=H1.out.2.1.cell 5
  have z0:=H1.out.2.1.free 0
  have z1:=H1.out.2.1.free 1
  have z2:=H1.out.2.1.free 2
  have z3:=H1.out.2.1.free 3
  have z4:=H1.out.2.1.free 4
  have z5:=H1.out.2.1.free 5
  simp at r0 r1 r2 r3 r4 r5
  go_wp2_with fail
  obtain ⟨W6,hW6,H6⟩:=set6 H1.out.2.1 (.int .i64 0) (.int .i64 0) (.int .i64 0) (.int .i64 0) (.int .i64 0) (.slice none 0 0)
  rw [hW6]
  clear hW6
  have y0:=H6.out.1.cell 0
  have y1:=H6.out.1.cell 1
  have y2:=H6.out.1.cell 2
  have y3:=H6.out.1.cell 3
  have y4:=H6.out.1.cell 4
  have y5:=H6.out.1.cell 5
  simp at y0 y1 y2 y3 y4 y5
  have hfr:Fr w W6 (fun i=>i=b):=H1.out.2.2.1.trans (Fr.of H6.out.2 (F:=fun i=>i=w.heap.size) (fun k hk=>by simp at hk;exact hk.symm)) (fun i hi=>.inr (by rw [hi];exact Nat.le_refl _))
  exact bodyPost_ret (v:=.tuple #[.agg #[.int .i64 0,.int .i64 0,.int .i64 0,.int .i64 0,.int .i64 0,.slice none 0 0],.int .i64 4]) (by simp [results,Tryz.results128,go_sem,y0,y1,y2,y3,y4,y5]) rfl (.inr ⟨HN.out,bi,.slice none 0 0,4,rfl,rfl,⟨_,_,_,rfl⟩,hfr⟩)
 have hpn:pNum 4 L=some (n,L.drop k):=by rw [hp,if_pos (by omega)]
 have q4:((4:Int)<(n:Int))=False:=by simp;omega
 have wn:IntKind.i64.wrap (n:Int)=(n:Int):=by rw [IntKind.wrap_i64];omega
 have HP:Hid (rawP L=(br n (L.drop k)).bind fun f=>if n=2 then (aN 4096 f.2).bind fun b=>(cE b.1).bind fun l=>some (⟨2,0,f.1.session,f.1.number,f.1.mark,l⟩,b.2) else some f):=by unfold rawP Hid;rw [hpn];rfl
 have hn4:n<=4:=by omega
 clear e0 hp hpn h4
 go_wp2_with fail
 obtain ⟨w2,hw2,H2⟩:=al1 w1 #[.int .i64 n,.int .i64 0,.int .i64 0,.int .i64 0,.int .i64 0,.slice none 0 0] 32
 rw [hw2]
 clear hw2
 refine (uR b w1.heap.size n (L.drop k) w2 (H1.out.1.grown H2.out.2.1) H2.out.1).mono ?_
 rintro e w3 (⟨c,M,hf,rfl,hR3,hc3,fr3⟩ | ⟨hf,rfl,⟨c,hc3⟩,fr3⟩)
 rotate_left
 ·have HN:Hid (rawP L=none):=by rw [Hid,HP.out,hf];rfl
  have hbz:Blk w3 w.heap.size 32 #[.int .i64 0,.int .i64 0,.int .i64 0,.int .i64 0,.int .i64 0,.slice none 0 0]:=(H1.out.2.1.grown H2.out.2.1 (by simp)).same (fr3.block _ (by have:=H1.out.2.2.2;have:=H2.out.2.2;omega) (by have:=HR.out.2.2;have:=H1.out.2.2.2;omega))
  have H3:Hid (Blk w3 w.heap.size 32 #[.int .i64 0,.int .i64 0,.int .i64 0,.int .i64 0,.int .i64 0,.slice none 0 0]/\Blk w3 w1.heap.size 32 (cmdA nil0 c)/\Fr w w3 (fun i=>i=b)):=⟨hbz,hc3,rj (fr_t H1.out.2.2.1 (dl H2.out.2.1)) fr3 (by have:=H1.out.2.2.2;omega)⟩
  clear hf hbz hc3 fr3 H2 H1
  unfold cmdA nil0 at H3
  have c0:=H3.out.2.1.cell 0
  have c1:=H3.out.2.1.cell 1
  have c2:=H3.out.2.1.cell 2
  have c3:=H3.out.2.1.cell 3
  have c4:=H3.out.2.1.cell 4
  have c5:=H3.out.2.1.cell 5
  simp at c0 c1 c2 c3 c4 c5
  have r0:=H3.out.1.cell 0
  have r1:=H3.out.1.cell 1
  have r2:=H3.out.1.cell 2
  have r3:=H3.out.1.cell 3
  have r4:=H3.out.1.cell 4
  have r5:=H3.out.1.cell 5
  have z0:=H3.out.1.free 0
  have z1:=H3.out.1.free 1
  have z2:=H3.out.1.free 2
  have z3:=H3.out.1.free 3
  have z4:=H3.out.1.free 4
  have z5:=H3.out.1.free 5
  simp at r0 r1 r2 r3 r4 r5
  go_wp2_with fail
  obtain ⟨W6,hW6,H6⟩:=set6 H3.out.1 (.int .i64 c.kind) (.int .i64 c.token) (.int .i64 c.session) (.int .i64 c.number) (.int .i64 c.mark) (.slice none 0 0)
  rw [hW6]
  clear hW6
  have y0:=H6.out.1.cell 0
  have y1:=H6.out.1.cell 1
  have y2:=H6.out.1.cell 2
  have y3:=H6.out.1.cell 3
  have y4:=H6.out.1.cell 4
  have y5:=H6.out.1.cell 5
  simp at y0 y1 y2 y3 y4 y5
  have hfr:Fr w W6 (fun i=>i=b):=H3.out.2.2.trans (Fr.of H6.out.2 (F:=fun i=>i=w.heap.size) (fun k hk=>by simp at hk;exact hk.symm)) (fun i hi=>.inr (by rw [hi];exact Nat.le_refl _))
  exact bodyPost_ret (v:=.tuple #[.agg #[.int .i64 c.kind,.int .i64 c.token,.int .i64 c.session,.int .i64 c.number,.int .i64 c.mark,.slice none 0 0],.int .i64 4]) (by simp [results,Tryz.results128,go_sem,y0,y1,y2,y3,y4,y5]) rfl (.inr ⟨HN.out,c,.slice none 0 0,4,rfl,rfl,⟨_,_,_,rfl⟩,hfr⟩)
 obtain ⟨k1,k2,k3,k4⟩:=nA hf
 have hbz:Blk w3 w.heap.size 32 #[.int .i64 0,.int .i64 0,.int .i64 0,.int .i64 0,.int .i64 0,.slice none 0 0]:=(H1.out.2.1.grown H2.out.2.1 (by simp)).same (fr3.block _ (by have:=H1.out.2.2.2;have:=H2.out.2.2;omega) (by have:=HR.out.2.2;have:=H1.out.2.2.2;omega))
 have H3:Hid (Blk w3 w.heap.size 32 #[.int .i64 0,.int .i64 0,.int .i64 0,.int .i64 0,.int .i64 0,.slice none 0 0]/\Blk w3 w1.heap.size 32 (cmdA nil0 c)/\Fr w w3 (fun i=>i=b)/\RR w3 b M/\br n (L.drop k)=some (c,M)/\c.ops=[]/\M.length<=L.length/\w.heap.size<w1.heap.size):=⟨hbz,hc3,rj (fr_t H1.out.2.2.1 (dl H2.out.2.1)) fr3 (by have:=H1.out.2.2.2;omega),hR3,hf,k2,by rw [List.length_drop] at k4;omega,H1.out.2.2.2⟩
 clear hf hbz hc3 fr3 H2 H1 hR3 k2 k4
 unfold cmdA nil0 at H3
 have c0:=H3.out.2.1.cell 0
 have c1:=H3.out.2.1.cell 1
 have c2:=H3.out.2.1.cell 2
 have c3:=H3.out.2.1.cell 3
 have c4:=H3.out.2.1.cell 4
 have c5:=H3.out.2.1.cell 5
 simp at c0 c1 c2 c3 c4 c5
 by_cases hn2:n=2
 rotate_left
 ·have HN:Hid (rawP L=some (c,M)):=by rw [Hid,HP.out,H3.out.2.2.2.2.1];simp [hn2]
  have q2:(c.kind==2)=false:=by rw [k1];simp;omega
  clear hn2 k1 k3
  have r0:=H3.out.1.cell 0
  have r1:=H3.out.1.cell 1
  have r2:=H3.out.1.cell 2
  have r3:=H3.out.1.cell 3
  have r4:=H3.out.1.cell 4
  have r5:=H3.out.1.cell 5
  have z0:=H3.out.1.free 0
  have z1:=H3.out.1.free 1
  have z2:=H3.out.1.free 2
  have z3:=H3.out.1.free 3
  have z4:=H3.out.1.free 4
  have z5:=H3.out.1.free 5
  simp at r0 r1 r2 r3 r4 r5
  go_wp2_with fail
  obtain ⟨W6,hW6,H6⟩:=set6 H3.out.1 (.int .i64 c.kind) (.int .i64 c.token) (.int .i64 c.session) (.int .i64 c.number) (.int .i64 c.mark) (.slice none 0 0)
  rw [hW6]
  clear hW6
  have y0:=H6.out.1.cell 0
  have y1:=H6.out.1.cell 1
  have y2:=H6.out.1.cell 2
  have y3:=H6.out.1.cell 3
  have y4:=H6.out.1.cell 4
  have y5:=H6.out.1.cell 5
  simp at y0 y1 y2 y3 y4 y5
  have hfr:Fr w W6 (fun i=>i=b):=H3.out.2.2.1.trans (Fr.of H6.out.2 (F:=fun i=>i=w.heap.size) (fun k hk=>by simp at hk;exact hk.symm)) (fun i hi=>.inr (by rw [hi];exact Nat.le_refl _))
  exact bodyPost_ret (v:=.tuple #[.agg #[.int .i64 c.kind,.int .i64 c.token,.int .i64 c.session,.int .i64 c.number,.int .i64 c.mark,.slice none 0 0],.int .i64 0]) (by simp [results,Tryz.results128,go_sem,y0,y1,y2,y3,y4,y5]) rfl (.inl ⟨c,M,.slice none 0 0,HN.out,rfl,by rw [H3.out.2.2.2.2.2.1];exact ⟨aO _ _,by simp⟩,H3.out.2.2.2.1.set H3.out.1 H6.out.2 (by decide) (by decide),hfr⟩)
 subst hn2
 have k1':c.kind=2:=by rw [k1];rfl
 have k3':=k3 rfl
 rw [k1'] at c0
 rw [k3'] at c1
 have HK:Hid (c.kind=2/\c.token=0):=⟨k1',k3'⟩
 clear k1 k3 k1' k3'
 go_wp2_with fail
 refine (uS b M w3 H3.out.2.2.2.1 (by have:=HR.out.2.1;have:=H3.out.2.2.2.2.2.2.1;omega)).mono ?_
 intro e w4 h
 rcases h with ⟨x,M2,v,hb,rfl,hov,hR4,g4⟩ | ⟨hb,er,v,her,rfl,hov,g4⟩
 rotate_left
 ·have HN:Hid (rawP L=none):=by rw [Hid,HP.out,H3.out.2.2.2.2.1];simp [hb]
  obtain ⟨sx,sn,sy,rfl⟩:=aB hov
  have ne1:∀{x c'},Blk w3 x 32 c'->Blk w4 x 32 c':=fun {x c'} hx=>hx.grown g4 (fun e=>by simp at e;exact H3.out.2.2.2.1.ne hx (by decide) e.symm)
  have H4:Hid (Blk w4 w.heap.size 32 #[.int .i64 0,.int .i64 0,.int .i64 0,.int .i64 0,.int .i64 0,.slice none 0 0]/\Blk w4 w1.heap.size 32 #[.int .i64 c.kind,.int .i64 c.token,.int .i64 c.session,.int .i64 c.number,.int .i64 c.mark,.slice none 0 0]/\Fr w w4 (fun i=>i=b)):=⟨ne1 H3.out.1,ne1 H3.out.2.1,fr_t H3.out.2.2.1 (fr_b g4)⟩
  have qer:(er=0)=False:=by simp at her;simp [her]
  clear ne1 hov g4 H3 hb c0 c1 c2 c3 c4 c5
  have c0:=H4.out.2.1.cell 0
  have c1:=H4.out.2.1.cell 1
  have c2:=H4.out.2.1.cell 2
  have c3:=H4.out.2.1.cell 3
  have c4:=H4.out.2.1.cell 4
  have c5:=H4.out.2.1.cell 5
  simp at c0 c1 c2 c3 c4 c5
  have r0:=H4.out.1.cell 0
  have r1:=H4.out.1.cell 1
  have r2:=H4.out.1.cell 2
  have r3:=H4.out.1.cell 3
  have r4:=H4.out.1.cell 4
  have r5:=H4.out.1.cell 5
  have z0:=H4.out.1.free 0
  have z1:=H4.out.1.free 1
  have z2:=H4.out.1.free 2
  have z3:=H4.out.1.free 3
  have z4:=H4.out.1.free 4
  have z5:=H4.out.1.free 5
  simp at r0 r1 r2 r3 r4 r5
  go_wp2_with fail
  obtain ⟨W6,hW6,H6⟩:=set6 H4.out.1 (.int .i64 c.kind) (.int .i64 c.token) (.int .i64 c.session) (.int .i64 c.number) (.int .i64 c.mark) (.slice none 0 0)
  rw [hW6]
  clear hW6
  have y0:=H6.out.1.cell 0
  have y1:=H6.out.1.cell 1
  have y2:=H6.out.1.cell 2
  have y3:=H6.out.1.cell 3
  have y4:=H6.out.1.cell 4
  have y5:=H6.out.1.cell 5
  simp at y0 y1 y2 y3 y4 y5
  have hfr:Fr w W6 (fun i=>i=b):=H4.out.2.2.trans (Fr.of H6.out.2 (F:=fun i=>i=w.heap.size) (fun k hk=>by simp at hk;exact hk.symm)) (fun i hi=>.inr (by rw [hi];exact Nat.le_refl _))
  exact bodyPost_ret (v:=.tuple #[.agg #[.int .i64 c.kind,.int .i64 c.token,.int .i64 c.session,.int .i64 c.number,.int .i64 c.mark,.slice none 0 0],.int .i64 er]) (by simp [results,Tryz.results128,go_sem,y0,y1,y2,y3,y4,y5]) rfl (.inr ⟨HN.out,c,.slice none 0 0,er,her,rfl,⟨_,_,_,rfl⟩,hfr⟩)
 obtain ⟨sx,sn,sy,rfl⟩:=aB hov
 have ne1:∀{x c'},Blk w3 x 32 c'->Blk w4 x 32 c':=fun {x c'} hx=>hx.grown g4 (fun e=>by simp at e;exact H3.out.2.2.2.1.ne hx (by decide) e.symm)
 have H4:Hid (Blk w4 w.heap.size 32 #[.int .i64 0,.int .i64 0,.int .i64 0,.int .i64 0,.int .i64 0,.slice none 0 0]/\Blk w4 w1.heap.size 32 #[.int .i64 c.kind,.int .i64 c.token,.int .i64 c.session,.int .i64 c.number,.int .i64 c.mark,.slice none 0 0]/\Fr w w4 (fun i=>i=b)/\RR w4 b M2/\Seg w4 (.slice sx sn sy) x/\w.heap.size<w1.heap.size/\br ((2:Nat):Int) (L.drop k)=some (c,M)/\aN 4096 M=some (x,M2)):=⟨ne1 H3.out.1,ne1 H3.out.2.1,fr_t H3.out.2.2.1 (fr_b g4),hR4,hov.seg,H3.out.2.2.2.2.2.2.2,H3.out.2.2.2.2.1,hb⟩
 have hx4:=(bT hb).2
 clear ne1 hov g4 H3 hb hR4 c0 c1 c2 c3 c4 c5
 go_wp2_with fail
 refine (uZ (.slice sx sn sy) x w4 (by omega) H4.out.2.2.2.2.1).mono ?_
 rintro e w5 ⟨u,rfl,hu,g5⟩
 obtain ⟨ux,un,uy,rfl⟩:∃a n b,u=.slice a n b:=by obtain ⟨a,n,b,e,_⟩:=aX hu.ops;exact ⟨a,n,b,e⟩
 have H5:Hid (Blk w5 w.heap.size 32 #[.int .i64 0,.int .i64 0,.int .i64 0,.int .i64 0,.int .i64 0,.slice none 0 0]/\Blk w5 w1.heap.size 32 #[.int .i64 c.kind,.int .i64 c.token,.int .i64 c.session,.int .i64 c.number,.int .i64 c.mark,.slice none 0 0]/\Fr w w5 (fun i=>i=b)/\RR w5 b M2/\aC w5 w4.heap.size (.slice ux un uy) (bR x).1/\w.heap.size<w1.heap.size/\w.heap.size<=w4.heap.size):=⟨H4.out.1.grown g5 (by simp),H4.out.2.1.grown g5 (by simp),fr_t H4.out.2.2.1 (dl g5),H4.out.2.2.2.1.grown g5,hu,H4.out.2.2.2.2.2.1,H4.out.2.2.1.size⟩
 clear g5 hu
 have c5:=H5.out.2.1.cell 5
 have z5:=H5.out.2.1.free 5
 simp at c5
 have hrd:bR x=match cE x with | some l=>(l,0) | none=>([],4):=by unfold bR;rw [if_pos hx4];cases cE x <;> rfl
 obtain ⟨er,her⟩:∃er,(bR x).2=er:=⟨_,rfl⟩
 rw [her]
 have HE:Hid ((bR x).2=er/\bR x=match cE x with | some l=>(l,0) | none=>([],4)):=⟨her,hrd⟩
 clear her hrd
 go_upto_region 12 with fail
 have HS:Hid (Blk (w5.setCell ⟨w1.heap.size,5,none⟩ (.slice ux un uy)) w.heap.size 32 #[.int .i64 0,.int .i64 0,.int .i64 0,.int .i64 0,.int .i64 0,.slice none 0 0]/\Blk (w5.setCell ⟨w1.heap.size,5,none⟩ (.slice ux un uy)) w1.heap.size 32 #[.int .i64 c.kind,.int .i64 c.token,.int .i64 c.session,.int .i64 c.number,.int .i64 c.mark,.slice ux un uy]/\Fr w (w5.setCell ⟨w1.heap.size,5,none⟩ (.slice ux un uy)) (fun i=>i=b)/\RR (w5.setCell ⟨w1.heap.size,5,none⟩ (.slice ux un uy)) b M2/\aC (w5.setCell ⟨w1.heap.size,5,none⟩ (.slice ux un uy)) w.heap.size (.slice ux un uy) (bR x).1):=by
  have hg:=ae w5 w1.heap.size 5 (.slice ux un uy)
  exact ⟨H5.out.1.grown hg (by simp;have:=H5.out.2.2.2.2.2.1;omega),H5.out.2.1.store 5 _,H5.out.2.2.1.trans (Fr.of hg (F:=fun i=>i=w1.heap.size) (fun k hk=>by simp at hk;exact hk.symm)) (fun i hi=>.inr (by rw [hi];have:=H5.out.2.2.2.2.2.1;omega)),H5.out.2.2.2.1.set H5.out.2.1 hg (by decide) (by decide),(H5.out.2.2.2.2.1.set H5.out.2.1 (by decide) (by decide) hg).mono H5.out.2.2.2.2.2.2⟩
 generalize w5.setCell ⟨w1.heap.size,5,none⟩ (.slice ux un uy)=w6 at HS ⊢
 clear H5 c5 z5
 have c0:=HS.out.2.1.cell 0
 have c1:=HS.out.2.1.cell 1
 have c2:=HS.out.2.1.cell 2
 have c3:=HS.out.2.1.cell 3
 have c4:=HS.out.2.1.cell 4
 have c5:=HS.out.2.1.cell 5
 simp at c0 c1 c2 c3 c4 c5
 have r0:=HS.out.1.cell 0
 have r1:=HS.out.1.cell 1
 have r2:=HS.out.1.cell 2
 have r3:=HS.out.1.cell 3
 have r4:=HS.out.1.cell 4
 have r5:=HS.out.1.cell 5
 have z0:=HS.out.1.free 0
 have z1:=HS.out.1.free 1
 have z2:=HS.out.1.free 2
 have z3:=HS.out.1.free 3
 have z4:=HS.out.1.free 4
 have z5:=HS.out.1.free 5
 simp at r0 r1 r2 r3 r4 r5
 go_wp2_with fail
 obtain ⟨W6,hW6,H6⟩:=set6 HS.out.1 (.int .i64 c.kind) (.int .i64 c.token) (.int .i64 c.session) (.int .i64 c.number) (.int .i64 c.mark) (.slice ux un uy)
 rw [hW6]
 clear hW6
 have y0:=H6.out.1.cell 0
 have y1:=H6.out.1.cell 1
 have y2:=H6.out.1.cell 2
 have y3:=H6.out.1.cell 3
 have y4:=H6.out.1.cell 4
 have y5:=H6.out.1.cell 5
 simp at y0 y1 y2 y3 y4 y5
 have hfr:Fr w W6 (fun i=>i=b):=HS.out.2.2.1.trans (Fr.of H6.out.2 (F:=fun i=>i=w.heap.size) (fun k hk=>by simp at hk;exact hk.symm)) (fun i hi=>.inr (by rw [hi];exact Nat.le_refl _))
 exact bodyPost_ret (v:=.tuple #[.agg #[.int .i64 c.kind,.int .i64 c.token,.int .i64 c.session,.int .i64 c.number,.int .i64 c.mark,.slice ux un uy],.int .i64 er]) (by simp [results,Tryz.results128,go_sem,y0,y1,y2,y3,y4,y5]) rfl (by
  have hop:=HS.out.2.2.2.2.set HS.out.1 (by decide) (by decide) H6.out.2
  have hrr:=HS.out.2.2.2.1.set HS.out.1 H6.out.2 (by decide) (by decide)
  have e1:=HE.out.1
  cases hl:cE x with
  | none =>
   rw [HE.out.2,hl] at e1
   refine .inr ⟨by rw [HP.out,H4.out.2.2.2.2.2.2.1];simp [H4.out.2.2.2.2.2.2.2,hl],c,.slice ux un uy,er,by rw [<-e1];rfl,rfl,⟨_,_,_,rfl⟩,hfr⟩
  | some l =>
   rw [HE.out.2,hl] at e1
   rw [HE.out.2,hl] at hop
   refine .inl ⟨⟨2,0,c.session,c.number,c.mark,l⟩,M2,.slice ux un uy,by rw [HP.out,H4.out.2.2.2.2.2.2.1];simp [H4.out.2.2.2.2.2.2.2,hl],?_,hop,hrr,hfr⟩
   rw [<-e1,HK.out.1,HK.out.2]
   rfl)
theorem rk {k:Int}{L M:Bs}{c:PCmd}(h:br k L=some (c,M))(h0:-9223372036854775808<=k)(h1:k<=9223372036854775807):InC c:=by
 unfold br at h
 split at h
 ·cases hs:pSgn L with
  | none=>rw [hs] at h;cases h
  | some t =>
   rw [hs] at h;simp at h;obtain ⟨rfl,rfl⟩:=h
   have b:=dx (n:=t.1) (M:=t.2) hs
   constructor <;> first | exact b.1 | exact b.2 | (dsimp only;omega)
 ·split at h
  ·cases hs:pSgn L with
   | none=>rw [hs] at h;cases h
   | some s =>
    rw [hs] at h;simp only [Option.bind_some] at h
    cases hn:pSgn s.2 with
    | none=>rw [hn] at h;cases h
    | some n =>
     rw [hn] at h;simp only [Option.bind_some] at h
     cases hm:pSgn n.2 with
     | none=>rw [hm] at h;cases h
     | some m =>
      rw [hm] at h;simp at h;obtain ⟨rfl,rfl⟩:=h
      have b:=dx (n:=s.1) (M:=s.2) hs
      have b2:=dx (n:=n.1) (M:=n.2) hn
      have b3:=dx (n:=m.1) (M:=m.2) hm
      constructor <;> first | exact b.1 | exact b.2 | exact b2.1 | exact b2.2 | exact b3.1 | exact b3.2 | (dsimp only;omega)
  ·split at h
   ·cases hs:pSgn L with
    | none=>rw [hs] at h;cases h
    | some s =>
     rw [hs] at h;simp at h;obtain ⟨rfl,rfl⟩:=h
     have b:=dx (n:=s.1) (M:=s.2) hs
     constructor <;> first | exact b.1 | exact b.2 | (dsimp only;omega)
   ·simp at h;obtain ⟨rfl,rfl⟩:=h
    constructor <;> (dsimp only;omega)
theorem tv {L M:Bs}{c:PCmd}(h:rawP L=some (c,M)):InC c:=by
 unfold rawP at h
 cases hk:pNum 4 L with
 | none=>rw [hk] at h;cases h
 | some k =>
  rw [hk] at h
  have hk4:=(cq (n:=k.1) (M:=k.2) hk).2
  simp only [Option.bind_some] at h
  cases hf:br k.1 k.2 with
  | none=>rw [hf] at h;cases h
  | some f =>
   rw [hf] at h
   have hi:=rk (c:=f.1) (M:=f.2) hf (by omega) (by omega)
   simp only [Option.bind_some] at h
   split at h
   ·cases hb:aN 4096 f.2 with
    | none=>rw [hb] at h;cases h
    | some b =>
     rw [hb] at h;simp only [Option.bind_some] at h
     cases hl:cE b.1 with
     | none=>rw [hl] at h;cases h
     | some l =>
      rw [hl] at h;simp at h;obtain ⟨rfl,rfl⟩:=h
      constructor <;> first | exact hi.s0 | exact hi.s1 | exact hi.n0 | exact hi.n1 | exact hi.m0 | exact hi.m1 | (dsimp only;omega)
   ·simp at h;rw [h] at hi;exact hi
def fd (w:World)(r:PCmd × Int)(e:Ending)(w':World):Prop:=∃ov,e=.returned (.tuple #[cmdV ov r.1,.int .i64 r.2])/\aC w' w.heap.size ov r.1.ops/\w.grownBy w' none
theorem nB (v:Value)(L:Bs)(w:World)(hs:Seg w v L)(hz:L.length<=140737488355328):Calls Tryz.prog 106 #[v] w (fd w (aM L)):=by
 have HV:Hid (Seg w v L/\L.length<=140737488355328):=⟨hs,hz⟩
 clear hs hz
 go_enter Tryz.func106,Tryz.ntmps106
 go_wp2_with fail
 obtain ⟨W,hW,HW⟩:=al1 w #[.int .i64 0,.int .i64 0,.int .i64 0,.int .i64 0,.int .i64 0,.slice none 0 0] 32
 rw [hW]
 clear hW
 refine (np v L W (HV.out.1.grown HW.out.2.1) HV.out.2).mono ?_
 rintro e w1 ⟨b,rfl,hb,hR,g1⟩
 have H1:Hid (RR w1 b L/\Blk w1 w.heap.size 32 #[.int .i64 0,.int .i64 0,.int .i64 0,.int .i64 0,.int .i64 0,.slice none 0 0]/\w.grownBy w1 none/\w.heap.size<b):=⟨hR,HW.out.1.grown g1 (by simp),aa HW.out.2.1 g1,by have:=HW.out.2.2;omega⟩
 clear hb hR g1 HW
 go_wp2_with fail
 refine (uT b L w1 H1.out.1 HV.out.2).mono ?_
 intro e w2 h
 rcases h with ⟨c,M,ov,hr,rfl,ho,hR2,fr⟩ | ⟨hr,c,ov,er,her,rfl,⟨x,n,y,rfl⟩,fr⟩
 rotate_left
 ·have hbz:Blk w2 w.heap.size 32 #[.int .i64 0,.int .i64 0,.int .i64 0,.int .i64 0,.int .i64 0,.slice none 0 0]:=H1.out.2.1.same (fr.block _ H1.out.2.1.lt (by have:=H1.out.2.2.2;omega))
  have H2:Hid (Blk w2 w.heap.size 32 #[.int .i64 0,.int .i64 0,.int .i64 0,.int .i64 0,.int .i64 0,.slice none 0 0]/\w.grownBy w2 none/\aM L=(bi,4)):=⟨hbz,(fr_t (dl H1.out.2.2.1) fr).grown (fun k hk=>by rw [hk];have:=H1.out.2.2.2;omega),by unfold aM;rw [lG,hr];rfl⟩
  have qer:(er=0)=False:=by simp at her;simp [her]
  clear hbz fr H1 hr
  unfold cmdV
  go_upto_region 4 with fail
  obtain ⟨w3,hw3,H3⟩:=al1 w2 #[.int .i64 c.kind,.int .i64 c.token,.int .i64 c.session,.int .i64 c.number,.int .i64 c.mark,.slice x n y] 32
  rw [hw3]
  clear hw3
  have H4:Hid (Blk w3 w.heap.size 32 #[.int .i64 0,.int .i64 0,.int .i64 0,.int .i64 0,.int .i64 0,.slice none 0 0]/\w.grownBy w3 none):=⟨H2.out.1.grown H3.out.2.1 (by simp),aa H2.out.2.1 H3.out.2.1⟩
  clear H3
  have r0:=H4.out.1.cell 0
  have r1:=H4.out.1.cell 1
  have r2:=H4.out.1.cell 2
  have r3:=H4.out.1.cell 3
  have r4:=H4.out.1.cell 4
  have r5:=H4.out.1.cell 5
  have z0:=H4.out.1.free 0
  have z1:=H4.out.1.free 1
  have z2:=H4.out.1.free 2
  have z3:=H4.out.1.free 3
  have z4:=H4.out.1.free 4
  have z5:=H4.out.1.free 5
  simp at r0 r1 r2 r3 r4 r5
  go_wp2_with fail
  obtain ⟨W6,hW6,H6⟩:=set6 H4.out.1 (.int .i64 0) (.int .i64 0) (.int .i64 0) (.int .i64 0) (.int .i64 0) (.slice none 0 0)
  rw [hW6]
  clear hW6
  have y0:=H6.out.1.cell 0
  have y1:=H6.out.1.cell 1
  have y2:=H6.out.1.cell 2
  have y3:=H6.out.1.cell 3
  have y4:=H6.out.1.cell 4
  have y5:=H6.out.1.cell 5
  simp at y0 y1 y2 y3 y4 y5
  have hgr:w.grownBy W6 none:=ah H4.out.2 H6.out.2 (fun x hx=>by simp at hx;omega)
  exact bodyPost_ret (v:=.tuple #[.agg #[.int .i64 0,.int .i64 0,.int .i64 0,.int .i64 0,.int .i64 0,.slice none 0 0],.int .i64 4]) (by simp [results,Tryz.results106,go_sem,y0,y1,y2,y3,y4,y5]) rfl (by rw [H2.out.2.2];exact ⟨.slice none 0 0,rfl,⟨aO _ _,by simp [bi]⟩,hgr⟩)
 obtain ⟨x,n,y,rfl⟩:∃a n b,ov=.slice a n b:=by obtain ⟨a,n,b,e,_⟩:=aX ho.ops;exact ⟨a,n,b,e⟩
 have hbz:Blk w2 w.heap.size 32 #[.int .i64 0,.int .i64 0,.int .i64 0,.int .i64 0,.int .i64 0,.slice none 0 0]:=H1.out.2.1.same (fr.block _ H1.out.2.1.lt (by have:=H1.out.2.2.2;omega))
 have H2:Hid (Blk w2 w.heap.size 32 #[.int .i64 0,.int .i64 0,.int .i64 0,.int .i64 0,.int .i64 0,.slice none 0 0]/\w.grownBy w2 none/\RR w2 b M/\aC w2 w1.heap.size (.slice x n y) c.ops/\aM L=(match finC c M with | some c=>(c,0) | none=>(bi,4))/\InC c/\w.heap.size<=w1.heap.size):=⟨hbz,(fr_t (dl H1.out.2.2.1) fr).grown (fun k hk=>by rw [hk];have:=H1.out.2.2.2;omega),hR2,ho,by unfold aM;rw [lG,hr];rfl,tv hr,H1.out.2.2.1.size⟩
 clear hbz fr H1 hr ho hR2
 unfold cmdV
 go_upto_region 3 with fail
 obtain ⟨w3,hw3,H3⟩:=al1 w2 #[.int .i64 c.kind,.int .i64 c.token,.int .i64 c.session,.int .i64 c.number,.int .i64 c.mark,.slice x n y] 32
 rw [hw3]
 clear hw3
 have H4:Hid (Blk w3 w.heap.size 32 #[.int .i64 0,.int .i64 0,.int .i64 0,.int .i64 0,.int .i64 0,.slice none 0 0]/\w.grownBy w3 none/\RR w3 b M/\aC w3 w.heap.size (.slice x n y) c.ops/\Blk w3 w2.heap.size 32 #[.int .i64 c.kind,.int .i64 c.token,.int .i64 c.session,.int .i64 c.number,.int .i64 c.mark,.slice x n y]):=⟨H2.out.1.grown H3.out.2.1 (by simp),aa H2.out.2.1 H3.out.2.1,H2.out.2.2.1.grown H3.out.2.1,(H2.out.2.2.2.1.grown H3.out.2.1).mono H2.out.2.2.2.2.2.2,H3.out.1⟩
 clear H3
 by_cases hM:M=[]
 rotate_left
 ·have HN:Hid (aM L=(bi,4)):=by rw [Hid,H2.out.2.2.2.2.1,finC,if_neg (fun h=>hM h.1)]
  go_wp2_with fail
  refine (ot b M _ H4.out.2.2.1).mono ?_
  rintro e wx ⟨rfl,hx⟩
  rw [hx,if_neg hM]
  clear hx
  have r0:=H4.out.1.cell 0
  have r1:=H4.out.1.cell 1
  have r2:=H4.out.1.cell 2
  have r3:=H4.out.1.cell 3
  have r4:=H4.out.1.cell 4
  have r5:=H4.out.1.cell 5
  have z0:=H4.out.1.free 0
  have z1:=H4.out.1.free 1
  have z2:=H4.out.1.free 2
  have z3:=H4.out.1.free 3
  have z4:=H4.out.1.free 4
  have z5:=H4.out.1.free 5
  simp at r0 r1 r2 r3 r4 r5
  go_wp2_with fail
  obtain ⟨W6,hW6,H6⟩:=set6 H4.out.1 (.int .i64 0) (.int .i64 0) (.int .i64 0) (.int .i64 0) (.int .i64 0) (.slice none 0 0)
  rw [hW6]
  clear hW6
  have y0:=H6.out.1.cell 0
  have y1:=H6.out.1.cell 1
  have y2:=H6.out.1.cell 2
  have y3:=H6.out.1.cell 3
  have y4:=H6.out.1.cell 4
  have y5:=H6.out.1.cell 5
  simp at y0 y1 y2 y3 y4 y5
  have hgr:w.grownBy W6 none:=ah H4.out.2.1 H6.out.2 (fun x hx=>by simp at hx;omega)
  exact bodyPost_ret (v:=.tuple #[.agg #[.int .i64 0,.int .i64 0,.int .i64 0,.int .i64 0,.int .i64 0,.slice none 0 0],.int .i64 4]) (by simp [results,Tryz.results106,go_sem,y0,y1,y2,y3,y4,y5]) rfl (by rw [HN.out];exact ⟨.slice none 0 0,rfl,⟨aO _ _,by simp [bi]⟩,hgr⟩)
 have d0:=H4.out.2.2.2.2.cell 0
 have d1:=H4.out.2.2.2.2.cell 1
 have d2:=H4.out.2.2.2.2.cell 2
 have d3:=H4.out.2.2.2.2.cell 3
 have d4:=H4.out.2.2.2.2.cell 4
 have d5:=H4.out.2.2.2.2.cell 5
 simp at d0 d1 d2 d3 d4 d5
 go_wp2_with (go_at_call 129;refine (ot b M _ H4.out.2.2.1).mono ?_;rintro e wx ⟨rfl,hx⟩;rw [hx,if_pos hM];clear hx)
 refine (oB (.slice x n y) c w3 H4.out.2.2.2.1.ops H2.out.2.2.2.2.2.1).mono ?_
 rintro e w4 ⟨rfl,g4⟩
 have H5:Hid (Blk w4 w.heap.size 32 #[.int .i64 0,.int .i64 0,.int .i64 0,.int .i64 0,.int .i64 0,.slice none 0 0]/\w.grownBy w4 none/\aC w4 w.heap.size (.slice x n y) c.ops/\Blk w4 w2.heap.size 32 #[.int .i64 c.kind,.int .i64 c.token,.int .i64 c.session,.int .i64 c.number,.int .i64 c.mark,.slice x n y]):=⟨H4.out.1.grown g4 (by simp),aa H4.out.2.1 g4,H4.out.2.2.2.1.grown g4,H4.out.2.2.2.2.grown g4 (by simp)⟩
 clear g4 d0 d1 d2 d3 d4 d5
 by_cases hk:okC c=true
 rotate_left
 ·have HN:Hid (aM L=(bi,4)):=by rw [Hid,H2.out.2.2.2.2.1,finC,if_neg (fun h=>hk h.2)]
  rw [show chkC c=2 by rw [chkC,if_neg hk]]
  clear hk H4 H2
  have r0:=H5.out.1.cell 0
  have r1:=H5.out.1.cell 1
  have r2:=H5.out.1.cell 2
  have r3:=H5.out.1.cell 3
  have r4:=H5.out.1.cell 4
  have r5:=H5.out.1.cell 5
  have z0:=H5.out.1.free 0
  have z1:=H5.out.1.free 1
  have z2:=H5.out.1.free 2
  have z3:=H5.out.1.free 3
  have z4:=H5.out.1.free 4
  have z5:=H5.out.1.free 5
  simp at r0 r1 r2 r3 r4 r5
  go_wp2_with fail
  obtain ⟨W6,hW6,H6⟩:=set6 H5.out.1 (.int .i64 0) (.int .i64 0) (.int .i64 0) (.int .i64 0) (.int .i64 0) (.slice none 0 0)
  rw [hW6]
  clear hW6
  have y0:=H6.out.1.cell 0
  have y1:=H6.out.1.cell 1
  have y2:=H6.out.1.cell 2
  have y3:=H6.out.1.cell 3
  have y4:=H6.out.1.cell 4
  have y5:=H6.out.1.cell 5
  simp at y0 y1 y2 y3 y4 y5
  have hgr:w.grownBy W6 none:=ah H5.out.2.1 H6.out.2 (fun x hx=>by simp at hx;omega)
  exact bodyPost_ret (v:=.tuple #[.agg #[.int .i64 0,.int .i64 0,.int .i64 0,.int .i64 0,.int .i64 0,.slice none 0 0],.int .i64 4]) (by simp [results,Tryz.results106,go_sem,y0,y1,y2,y3,y4,y5]) rfl (by rw [HN.out];exact ⟨.slice none 0 0,rfl,⟨aO _ _,by simp [bi]⟩,hgr⟩)
 have HN:Hid (aM L=(c,0)):=by rw [Hid,H2.out.2.2.2.2.1,finC,if_pos ⟨hM,hk⟩]
 rw [show chkC c=0 by rw [chkC,if_pos hk]]
 clear hk H4 H2
 have d0:=H5.out.2.2.2.cell 0
 have d1:=H5.out.2.2.2.cell 1
 have d2:=H5.out.2.2.2.cell 2
 have d3:=H5.out.2.2.2.cell 3
 have d4:=H5.out.2.2.2.cell 4
 have d5:=H5.out.2.2.2.cell 5
 simp at d0 d1 d2 d3 d4 d5
 have r0:=H5.out.1.cell 0
 have r1:=H5.out.1.cell 1
 have r2:=H5.out.1.cell 2
 have r3:=H5.out.1.cell 3
 have r4:=H5.out.1.cell 4
 have r5:=H5.out.1.cell 5
 have z0:=H5.out.1.free 0
 have z1:=H5.out.1.free 1
 have z2:=H5.out.1.free 2
 have z3:=H5.out.1.free 3
 have z4:=H5.out.1.free 4
 have z5:=H5.out.1.free 5
 simp at r0 r1 r2 r3 r4 r5
 go_wp2_with fail
 obtain ⟨W6,hW6,H6⟩:=set6 H5.out.1 (.int .i64 c.kind) (.int .i64 c.token) (.int .i64 c.session) (.int .i64 c.number) (.int .i64 c.mark) (.slice x n y)
 rw [hW6]
 clear hW6
 have y0:=H6.out.1.cell 0
 have y1:=H6.out.1.cell 1
 have y2:=H6.out.1.cell 2
 have y3:=H6.out.1.cell 3
 have y4:=H6.out.1.cell 4
 have y5:=H6.out.1.cell 5
 simp at y0 y1 y2 y3 y4 y5
 have hgr:w.grownBy W6 none:=ah H5.out.2.1 H6.out.2 (fun x hx=>by simp at hx;omega)
 exact bodyPost_ret (v:=.tuple #[.agg #[.int .i64 c.kind,.int .i64 c.token,.int .i64 c.session,.int .i64 c.number,.int .i64 c.mark,.slice x n y],.int .i64 0]) (by simp [results,Tryz.results106,go_sem,y0,y1,y2,y3,y4,y5]) rfl (by rw [HN.out];exact ⟨.slice x n y,rfl,H5.out.2.2.1.set H5.out.1 (by decide) (by decide) H6.out.2,hgr⟩)
theorem rn (ao:Option Addr)(n cp:Nat)(tk ss nb mk:Int)(w:World):Calls Tryz.prog 41 #[.agg #[.int .i64 1,.int .i64 tk,.int .i64 ss,.int .i64 nb,.int .i64 mk,.slice ao n cp]] w fun e w'=>e=.returned (.int .i64 (if 1<=tk/\ss=0/\nb=0/\mk=0/\n=0 then 0 else 2))/\w.grownBy w' none:=by
 by_cases e0:1<=tk
 rotate_left
 ·rw [if_neg (fun h=>e0 h.1)]
  have q0:(tk ≥ 1)=False:=by simp;omega
  have q0':(1<=tk)=False:=by simp;omega
  clear e0
  go_enter Tryz.func41,Tryz.ntmps41
  go_wp2_with fail
  go_ret
  exact ⟨rfl,World.grownBy_alloc _ _ _⟩
 have q0:(tk ≥ 1)=True:=by simp;omega
 have q0':(1<=tk)=True:=by simp;omega
 have N0:Hid (1<=tk):=e0
 clear e0
 by_cases e1:ss=0
 rotate_left
 ·rw [if_neg (fun h=>e1 h.2.1)]
  have q1:(ss==0)=false:=by simp;omega
  skip
  clear e1
  go_enter Tryz.func41,Tryz.ntmps41
  go_wp2_with fail
  go_ret
  exact ⟨rfl,World.grownBy_alloc _ _ _⟩
 subst e1
 by_cases e2:nb=0
 rotate_left
 ·rw [if_neg (fun h=>e2 h.2.2.1)]
  have q2:(nb==0)=false:=by simp;omega
  skip
  clear e2
  go_enter Tryz.func41,Tryz.ntmps41
  go_wp2_with fail
  go_ret
  exact ⟨rfl,World.grownBy_alloc _ _ _⟩
 subst e2
 by_cases e3:mk=0
 rotate_left
 ·rw [if_neg (fun h=>e3 h.2.2.2.1)]
  have q3:(mk==0)=false:=by simp;omega
  skip
  clear e3
  go_enter Tryz.func41,Tryz.ntmps41
  go_wp2_with fail
  go_ret
  exact ⟨rfl,World.grownBy_alloc _ _ _⟩
 subst e3
 by_cases e4:n=0
 rotate_left
 ·rw [if_neg (fun h=>e4 h.2.2.2.2)]
  have q4:((n:Int)==0)=false:=by simp;omega
  skip
  clear e4
  go_enter Tryz.func41,Tryz.ntmps41
  go_wp2_with fail
  go_ret
  exact ⟨rfl,World.grownBy_alloc _ _ _⟩
 subst e4
 rw [if_pos ⟨N0.out,rfl,rfl,rfl,rfl⟩]
 go_enter Tryz.func41,Tryz.ntmps41
 go_wp2_with fail
 go_ret
 exact ⟨rfl,World.grownBy_alloc _ _ _⟩
theorem ro (ao:Option Addr)(n cp:Nat)(tk ss nb mk:Int)(w:World):Calls Tryz.prog 41 #[.agg #[.int .i64 3,.int .i64 tk,.int .i64 ss,.int .i64 nb,.int .i64 mk,.slice ao n cp]] w fun e w'=>e=.returned (.int .i64 (if tk=0/\1<=ss/\nb=0/\mk=0/\n=0 then 0 else 2))/\w.grownBy w' none:=by
 by_cases e0:tk=0
 rotate_left
 ·rw [if_neg (fun h=>e0 h.1)]
  have q0:(tk==0)=false:=by simp;omega
  skip
  clear e0
  go_enter Tryz.func41,Tryz.ntmps41
  go_wp2_with fail
  go_ret
  exact ⟨rfl,World.grownBy_alloc _ _ _⟩
 subst e0
 by_cases e1:1<=ss
 rotate_left
 ·rw [if_neg (fun h=>e1 h.2.1)]
  have q1:(ss ≥ 1)=False:=by simp;omega
  have q1':(1<=ss)=False:=by simp;omega
  clear e1
  go_enter Tryz.func41,Tryz.ntmps41
  go_wp2_with fail
  go_ret
  exact ⟨rfl,World.grownBy_alloc _ _ _⟩
 have q1:(ss ≥ 1)=True:=by simp;omega
 have q1':(1<=ss)=True:=by simp;omega
 have N1:Hid (1<=ss):=e1
 clear e1
 by_cases e2:nb=0
 rotate_left
 ·rw [if_neg (fun h=>e2 h.2.2.1)]
  have q2:(nb==0)=false:=by simp;omega
  skip
  clear e2
  go_enter Tryz.func41,Tryz.ntmps41
  go_wp2_with fail
  go_ret
  exact ⟨rfl,World.grownBy_alloc _ _ _⟩
 subst e2
 by_cases e3:mk=0
 rotate_left
 ·rw [if_neg (fun h=>e3 h.2.2.2.1)]
  have q3:(mk==0)=false:=by simp;omega
  skip
  clear e3
  go_enter Tryz.func41,Tryz.ntmps41
  go_wp2_with fail
  go_ret
  exact ⟨rfl,World.grownBy_alloc _ _ _⟩
 subst e3
 by_cases e4:n=0
 rotate_left
 ·rw [if_neg (fun h=>e4 h.2.2.2.2)]
  have q4:((n:Int)==0)=false:=by simp;omega
  skip
  clear e4
  go_enter Tryz.func41,Tryz.ntmps41
  go_wp2_with fail
  go_ret
  exact ⟨rfl,World.grownBy_alloc _ _ _⟩
 subst e4
 rw [if_pos ⟨rfl,N1.out,rfl,rfl,rfl⟩]
 go_enter Tryz.func41,Tryz.ntmps41
 go_wp2_with fail
 go_ret
 exact ⟨rfl,World.grownBy_alloc _ _ _⟩
theorem rp (ao:Option Addr)(n cp:Nat)(tk ss nb mk:Int)(w:World):Calls Tryz.prog 41 #[.agg #[.int .i64 4,.int .i64 tk,.int .i64 ss,.int .i64 nb,.int .i64 mk,.slice ao n cp]] w fun e w'=>e=.returned (.int .i64 (if tk=0/\1<=ss/\nb=0/\mk=0/\n=0 then 0 else 2))/\w.grownBy w' none:=by
 by_cases e0:tk=0
 rotate_left
 ·rw [if_neg (fun h=>e0 h.1)]
  have q0:(tk==0)=false:=by simp;omega
  skip
  clear e0
  go_enter Tryz.func41,Tryz.ntmps41
  go_wp2_with fail
  go_ret
  exact ⟨rfl,World.grownBy_alloc _ _ _⟩
 subst e0
 by_cases e1:1<=ss
 rotate_left
 ·rw [if_neg (fun h=>e1 h.2.1)]
  have q1:(ss ≥ 1)=False:=by simp;omega
  have q1':(1<=ss)=False:=by simp;omega
  clear e1
  go_enter Tryz.func41,Tryz.ntmps41
  go_wp2_with fail
  go_ret
  exact ⟨rfl,World.grownBy_alloc _ _ _⟩
 have q1:(ss ≥ 1)=True:=by simp;omega
 have q1':(1<=ss)=True:=by simp;omega
 have N1:Hid (1<=ss):=e1
 clear e1
 by_cases e2:nb=0
 rotate_left
 ·rw [if_neg (fun h=>e2 h.2.2.1)]
  have q2:(nb==0)=false:=by simp;omega
  skip
  clear e2
  go_enter Tryz.func41,Tryz.ntmps41
  go_wp2_with fail
  go_ret
  exact ⟨rfl,World.grownBy_alloc _ _ _⟩
 subst e2
 by_cases e3:mk=0
 rotate_left
 ·rw [if_neg (fun h=>e3 h.2.2.2.1)]
  have q3:(mk==0)=false:=by simp;omega
  skip
  clear e3
  go_enter Tryz.func41,Tryz.ntmps41
  go_wp2_with fail
  go_ret
  exact ⟨rfl,World.grownBy_alloc _ _ _⟩
 subst e3
 by_cases e4:n=0
 rotate_left
 ·rw [if_neg (fun h=>e4 h.2.2.2.2)]
  have q4:((n:Int)==0)=false:=by simp;omega
  skip
  clear e4
  go_enter Tryz.func41,Tryz.ntmps41
  go_wp2_with fail
  go_ret
  exact ⟨rfl,World.grownBy_alloc _ _ _⟩
 subst e4
 rw [if_pos ⟨rfl,N1.out,rfl,rfl,rfl⟩]
 go_enter Tryz.func41,Tryz.ntmps41
 go_wp2_with fail
 go_ret
 exact ⟨rfl,World.grownBy_alloc _ _ _⟩
theorem rs (ao:Option Addr)(n cp:Nat)(tk ss nb mk:Int)(l:List POp)(w:World)(hl:Ops w (.slice ao n cp) l):Calls Tryz.prog 41 #[.agg #[.int .i64 2,.int .i64 tk,.int .i64 ss,.int .i64 nb,.int .i64 mk,.slice ao n cp]] w fun e w'=>e=.returned (.int .i64 (if tk=0/\1<=ss/\1<=nb/\0<=mk/\mk<nb/\chk l=0 then 0 else 2))/\w.grownBy w' none:=by
 have HL:Hid (Ops w (.slice ao n cp) l):=hl
 clear hl
 by_cases e0:tk=0
 rotate_left
 ·rw [if_neg (fun h=>e0 h.1)]
  have q0:(tk==0)=false:=by simp;omega
  clear e0
  go_enter Tryz.func41,Tryz.ntmps41
  go_wp2_with fail
  go_ret
  exact ⟨rfl,World.grownBy_alloc _ _ _⟩
 subst e0
 by_cases e1:1<=ss
 rotate_left
 ·rw [if_neg (fun h=>e1 h.2.1)]
  have q1:(1<=ss)=False:=by simp;omega
  clear e1
  go_enter Tryz.func41,Tryz.ntmps41
  go_wp2_with fail
  go_ret
  exact ⟨rfl,World.grownBy_alloc _ _ _⟩
 have q1:(1<=ss)=True:=by simp;omega
 have N1:Hid (1<=ss):=e1
 clear e1
 by_cases e2:1<=nb
 rotate_left
 ·rw [if_neg (fun h=>e2 h.2.2.1)]
  have q2:(1<=nb)=False:=by simp;omega
  clear e2
  go_enter Tryz.func41,Tryz.ntmps41
  go_wp2_with fail
  go_ret
  exact ⟨rfl,World.grownBy_alloc _ _ _⟩
 have q2:(1<=nb)=True:=by simp;omega
 have N2:Hid (1<=nb):=e2
 clear e2
 by_cases e3:0<=mk
 rotate_left
 ·rw [if_neg (fun h=>e3 h.2.2.2.1)]
  have q3:(0<=mk)=False:=by simp;omega
  clear e3
  go_enter Tryz.func41,Tryz.ntmps41
  go_wp2_with fail
  go_ret
  exact ⟨rfl,World.grownBy_alloc _ _ _⟩
 have q3:(0<=mk)=True:=by simp;omega
 have N3:Hid (0<=mk):=e3
 clear e3
 by_cases e4:mk<nb
 rotate_left
 ·rw [if_neg (fun h=>e4 h.2.2.2.2.1)]
  have q4:(mk<nb)=False:=by simp;omega
  clear e4
  go_enter Tryz.func41,Tryz.ntmps41
  go_wp2_with fail
  go_ret
  exact ⟨rfl,World.grownBy_alloc _ _ _⟩
 have q4:(mk<nb)=True:=by simp;omega
 have N4:Hid (mk<nb):=e4
 clear e4
 by_cases hc:chk l=0
 ·rw [if_pos ⟨rfl,N1.out,N2.out,N3.out,N4.out,hc⟩]
  have HC:Hid (chk l=0):=hc
  clear hc
  go_enter Tryz.func41,Tryz.ntmps41
  go_wp2_with fail
  obtain ⟨W,hW,HW⟩:=al1 w #[.int .i64 2,.int .i64 0,.int .i64 ss,.int .i64 nb,.int .i64 mk,.slice ao n cp] 32
  rw [hW]
  clear hW
  refine (og (.slice ao n cp) l W (HL.out.grown HW.out.2.1)).mono ?_
  rintro e w1 ⟨rfl,g1⟩
  rw [HC.out]
  have G:Hid (w.grownBy w1 none):=aa HW.out.2.1 g1
  clear g1 HW
  go_wp2_with fail
  go_ret
  exact ⟨rfl,G.out⟩
 ·rw [if_neg (fun h=>hc h.2.2.2.2.2)]
  have qc:(chk l==0)=false:=by simp [hc]
  clear hc
  go_enter Tryz.func41,Tryz.ntmps41
  go_wp2_with fail
  obtain ⟨W,hW,HW⟩:=al1 w #[.int .i64 2,.int .i64 0,.int .i64 ss,.int .i64 nb,.int .i64 mk,.slice ao n cp] 32
  rw [hW]
  clear hW
  refine (og (.slice ao n cp) l W (HL.out.grown HW.out.2.1)).mono ?_
  rintro e w1 ⟨rfl,g1⟩
  have G:Hid (w.grownBy w1 none):=aa HW.out.2.1 g1
  clear g1 HW
  go_wp2_with fail
  go_ret
  exact ⟨rfl,G.out⟩
theorem rt (ao:Option Addr)(n cp:Nat)(k tk ss nb mk:Int)(w:World)(h1:(k==1)=false)(h2:(k==2)=false)(h3:(k==3)=false)(h4:(k==4)=false):Calls Tryz.prog 41 #[.agg #[.int .i64 k,.int .i64 tk,.int .i64 ss,.int .i64 nb,.int .i64 mk,.slice ao n cp]] w fun e w'=>e=.returned (.int .i64 2)/\w.grownBy w' none:=by
 go_enter Tryz.func41,Tryz.ntmps41
 go_wp2_with fail
 go_ret
 exact ⟨rfl,World.grownBy_alloc _ _ _⟩
theorem iW (c:PCmd):okC c=true<->(c.kind=1/\1<=c.token/\c.session=0/\c.number=0/\c.mark=0/\c.ops=[])\/(c.kind=2/\c.token=0/\1<=c.session/\1<=c.number/\0<=c.mark/\c.mark<c.number/\chk c.ops=0)\/((c.kind=3\/c.kind=4)/\c.token=0/\1<=c.session/\c.number=0/\c.mark=0/\c.ops=[]):=by
 obtain ⟨k,tk,ss,nb,mk,l⟩:=c
 unfold okC fitC idOk idC ns cV
 by_cases h1:k=1
 ·subst h1;simp <;> grind
 ·by_cases h2:k=2
  ·subst h2;simp <;> grind
  ·by_cases h3:k=3
   ·subst h3;simp <;> grind
   ·by_cases h4:k=4
    ·subst h4;simp <;> grind
    ·simp [h1,h2,h3,h4]
theorem eC (ov:Value)(c:PCmd)(w:World)(h:Ops w ov c.ops):Calls Tryz.prog 41 #[cmdV ov c] w fun e w'=>e=.returned (.int .i64 (chkC c))/\w.grownBy w' none:=by
 obtain ⟨ao,n,cp,rfl,hn,_⟩:=aX h
 have he:∀{P:Prop} [Decidable P],(okC c=true<->P)->chkC c=if P then 0 else 2:=fun {P} _ hP=>by
  unfold chkC
  by_cases hp:P
  ·rw [if_pos hp,if_pos (hP.2 hp)]
  ·rw [if_neg hp,if_neg (fun e=>hp (hP.1 e))]
 have hnil:n=0<->c.ops=[]:=by rw [<-hn,List.length_eq_zero_iff]
 obtain ⟨k,tk,ss,nb,mk,l⟩:=c
 simp only at h he hnil
 unfold cmdV
 simp only
 have ok:=iW ⟨k,tk,ss,nb,mk,l⟩
 simp only at ok
 by_cases h1:k=1
 ·subst h1
  rw [he (P:=1<=tk/\ss=0/\nb=0/\mk=0/\n=0) (by rw [ok,hnil];simp)]
  exact rn ao n cp tk ss nb mk w
 ·by_cases h2:k=2
  ·subst h2
   rw [he (P:=tk=0/\1<=ss/\1<=nb/\0<=mk/\mk<nb/\chk l=0) (by rw [ok];simp)]
   exact rs ao n cp tk ss nb mk l w h
  ·by_cases h3:k=3
   ·subst h3
    rw [he (P:=tk=0/\1<=ss/\nb=0/\mk=0/\n=0) (by rw [ok,hnil];simp)]
    exact ro ao n cp tk ss nb mk w
   ·by_cases h4:k=4
    ·subst h4
     rw [he (P:=tk=0/\1<=ss/\nb=0/\mk=0/\n=0) (by rw [ok,hnil];simp)]
     exact rp ao n cp tk ss nb mk w
    ·have hno:¬okC ⟨k,tk,ss,nb,mk,l⟩=true:=by rw [ok];simp [h1,h2,h3,h4]
     rw [chkC,if_neg hno]
     exact rt ao n cp k tk ss nb mk w (by simp [h1]) (by simp [h2]) (by simp [h3]) (by simp [h4])
theorem dSgn (n:Int)(h1:-9223372036854775808<=n)(h2:n<=9223372036854775807)(w:World):Calls Tryz.prog 76 #[.int .i64 n] w (cy (sgn n) w):=(Wire.sU n h1 h2 w).mono fun _ _ h=>ef h
theorem rx (ao:Option Addr)(n cp:Nat)(tk ss nb mk:Int)(l:List POp)(w:World)(hl:Ops w (.slice ao n cp) l)(hI:InC (⟨1,tk,ss,nb,mk,l⟩:PCmd)):Calls Tryz.prog 44 #[cmdV (.slice ao n cp) (⟨1,tk,ss,nb,mk,l⟩:PCmd)] w (cy (aS (⟨1,tk,ss,nb,mk,l⟩:PCmd)) w):=by
 have HL:Hid (Ops w (.slice ao n cp) l/\InC (⟨1,tk,ss,nb,mk,l⟩:PCmd)):=⟨hl,hI⟩
 clear hl hI
 simp only [cmdV]
 go_enter Tryz.func44,Tryz.ntmps44
 go_wp2_with fail
 obtain ⟨W,hW,HW⟩:=al1 w #[.int .i64 1,.int .i64 tk,.int .i64 ss,.int .i64 nb,.int .i64 mk,.slice ao n cp] 32
 rw [hW]
 clear hW
 refine (dNum _ 1 rfl (by decide) _).mono ?_
 rintro e w2 ⟨u0,rfl,o0,gg2⟩
 have H3:Hid (Blk w2 w.heap.size 32 #[.int .i64 1,.int .i64 tk,.int .i64 ss,.int .i64 nb,.int .i64 mk,.slice ao n cp]/\w.grownBy w2 none/\Own w2 (w.heap.size+1) u0 (Wire.ai 1)):=⟨HW.out.1.grown gg2 (by simp),aa HW.out.2.1 gg2,Own.mono o0 (by have:=HW.out.2.2;omega)⟩
 clear gg2 o0 HW
 obtain ⟨F0,hF0⟩:∃F,Wire.ai 1=F:=⟨_,rfl⟩
 have B0:Hid (F0.length<=10/\Wire.ai 1=F0):=⟨by rw [<-hF0];exact Wire.ay _ (by decide),hF0⟩
 rw [hF0] at H3
 clear hF0
 have a0:=H3.out.1.cell 0
 have a1:=H3.out.1.cell 1
 simp at a0 a1
 go_wp2_with fail
 refine (dSgn tk HL.out.2.t0 HL.out.2.t1 _).mono ?_
 rintro e p0 ⟨r0,rfl,or0,gr0⟩
 have H4:Hid (Blk p0 w.heap.size 32 #[.int .i64 1,.int .i64 tk,.int .i64 ss,.int .i64 nb,.int .i64 mk,.slice ao n cp]/\w.grownBy p0 none/\Own p0 (w.heap.size+1) u0 F0/\Seg p0 r0 (sgn tk)/\w.heap.size+1<=p0.heap.size):=⟨H3.out.1.grown gr0 (by simp),aa H3.out.2.1 gr0,H3.out.2.2.grown gr0,or0.seg,by have:=gr0.size;have:=H3.out.1.lt;omega⟩
 clear or0 gr0 H3 a0 a1
 go_wp2_with (at_builtin;refine bH _ rfl _ _ rfl (w.heap.size+1) _ F0 _ (sgn tk) rfl rfl H4.out.2.2.1 H4.out.2.2.2.1 ?c0 H4.out.2.2.2.2 ?_)
 case c0 =>
  have h1:=B0.out.1
  have h2:(sgn tk).length<=10:=bf HL.out.2.t0 HL.out.2.t1
  omega
 intro u1 q0 o1 g1 _
 obtain ⟨F1,hF1⟩:∃F,F0 ++ sgn tk=F:=⟨_,rfl⟩
 rw [hF1] at o1
 have B1:Hid (F1.length<=20/\F0 ++ sgn tk=F1):=⟨by
  have h1:=B0.out.1
  have h2:(sgn tk).length<=10:=bf HL.out.2.t0 HL.out.2.t1
  rw [<-hF1,List.length_append];omega,hF1⟩
 clear hF1
 have H3:Hid (Blk q0 w.heap.size 32 #[.int .i64 1,.int .i64 tk,.int .i64 ss,.int .i64 nb,.int .i64 mk,.slice ao n cp]/\w.grownBy q0 none/\Own q0 (w.heap.size+1) u1 F1):=by
  have hne:∀x,(u0:Value).ownBlock=some x->w.heap.size+1<=x:=fun x hx=>(H4.out.2.2.1.lt x hx).1
  exact ⟨H4.out.1.grown g1 (fun e=>by have:=hne _ e;omega),ah H4.out.2.1 g1 (fun x hx=>by have:=hne x hx;omega),o1⟩
 clear o1 g1 H4
 go_wp2_with fail
 go_ret
 have hE:aS (⟨1,tk,ss,nb,mk,l⟩:PCmd)=F1:=by
  rw [<-B1.out.2,<-B0.out.2]
  simp [aS,cB,dn,dA]
 refine ⟨_,rfl,?_,H3.out.2.1⟩
 rw [hE]
 exact Own.mono H3.out.2.2 (by omega)
theorem ry (ao:Option Addr)(n cp:Nat)(tk ss nb mk:Int)(l:List POp)(w:World)(hl:Ops w (.slice ao n cp) l)(hI:InC (⟨2,tk,ss,nb,mk,l⟩:PCmd))(hc:chk l=0):Calls Tryz.prog 44 #[cmdV (.slice ao n cp) (⟨2,tk,ss,nb,mk,l⟩:PCmd)] w (cy (aS (⟨2,tk,ss,nb,mk,l⟩:PCmd)) w):=by
 have HL:Hid (Ops w (.slice ao n cp) l/\InC (⟨2,tk,ss,nb,mk,l⟩:PCmd)):=⟨hl,hI⟩
 clear hl hI
 simp only [cmdV]
 go_enter Tryz.func44,Tryz.ntmps44
 go_wp2_with fail
 obtain ⟨W,hW,HW⟩:=al1 w #[.int .i64 2,.int .i64 tk,.int .i64 ss,.int .i64 nb,.int .i64 mk,.slice ao n cp] 32
 rw [hW]
 clear hW
 refine (dNum _ 2 rfl (by decide) _).mono ?_
 rintro e w2 ⟨u0,rfl,o0,gg2⟩
 have H3:Hid (Blk w2 w.heap.size 32 #[.int .i64 2,.int .i64 tk,.int .i64 ss,.int .i64 nb,.int .i64 mk,.slice ao n cp]/\w.grownBy w2 none/\Own w2 (w.heap.size+1) u0 (Wire.ai 2)):=⟨HW.out.1.grown gg2 (by simp),aa HW.out.2.1 gg2,Own.mono o0 (by have:=HW.out.2.2;omega)⟩
 clear gg2 o0 HW
 obtain ⟨F0,hF0⟩:∃F,Wire.ai 2=F:=⟨_,rfl⟩
 have B0:Hid (F0.length<=10/\Wire.ai 2=F0):=⟨by rw [<-hF0];exact Wire.ay _ (by decide),hF0⟩
 rw [hF0] at H3
 clear hF0
 have a0:=H3.out.1.cell 0
 have a1:=H3.out.1.cell 2
 simp at a0 a1
 go_wp2_with fail
 refine (dSgn ss HL.out.2.s0 HL.out.2.s1 _).mono ?_
 rintro e p0 ⟨r0,rfl,or0,gr0⟩
 have H4:Hid (Blk p0 w.heap.size 32 #[.int .i64 2,.int .i64 tk,.int .i64 ss,.int .i64 nb,.int .i64 mk,.slice ao n cp]/\w.grownBy p0 none/\Own p0 (w.heap.size+1) u0 F0/\Seg p0 r0 (sgn ss)/\w.heap.size+1<=p0.heap.size):=⟨H3.out.1.grown gr0 (by simp),aa H3.out.2.1 gr0,H3.out.2.2.grown gr0,or0.seg,by have:=gr0.size;have:=H3.out.1.lt;omega⟩
 clear or0 gr0 H3 a0 a1
 go_wp2_with (at_builtin;refine bH _ rfl _ _ rfl (w.heap.size+1) _ F0 _ (sgn ss) rfl rfl H4.out.2.2.1 H4.out.2.2.2.1 ?c0 H4.out.2.2.2.2 ?_)
 case c0 =>
  have h1:=B0.out.1
  have h2:(sgn ss).length<=10:=bf HL.out.2.s0 HL.out.2.s1
  omega
 intro u1 q0 o1 g1 _
 obtain ⟨F1,hF1⟩:∃F,F0 ++ sgn ss=F:=⟨_,rfl⟩
 rw [hF1] at o1
 have B1:Hid (F1.length<=20/\F0 ++ sgn ss=F1):=⟨by
  have h1:=B0.out.1
  have h2:(sgn ss).length<=10:=bf HL.out.2.s0 HL.out.2.s1
  rw [<-hF1,List.length_append];omega,hF1⟩
 clear hF1
 have H3:Hid (Blk q0 w.heap.size 32 #[.int .i64 2,.int .i64 tk,.int .i64 ss,.int .i64 nb,.int .i64 mk,.slice ao n cp]/\w.grownBy q0 none/\Own q0 (w.heap.size+1) u1 F1):=by
  have hne:∀x,(u0:Value).ownBlock=some x->w.heap.size+1<=x:=fun x hx=>(H4.out.2.2.1.lt x hx).1
  exact ⟨H4.out.1.grown g1 (fun e=>by have:=hne _ e;omega),ah H4.out.2.1 g1 (fun x hx=>by have:=hne x hx;omega),o1⟩
 clear o1 g1 H4
 have a0:=H3.out.1.cell 0
 have a1:=H3.out.1.cell 3
 simp at a0 a1
 go_wp2_with fail
 refine (dSgn nb HL.out.2.n0 HL.out.2.n1 _).mono ?_
 rintro e p1 ⟨r1,rfl,or1,gr1⟩
 have H4:Hid (Blk p1 w.heap.size 32 #[.int .i64 2,.int .i64 tk,.int .i64 ss,.int .i64 nb,.int .i64 mk,.slice ao n cp]/\w.grownBy p1 none/\Own p1 (w.heap.size+1) u1 F1/\Seg p1 r1 (sgn nb)/\w.heap.size+1<=p1.heap.size):=⟨H3.out.1.grown gr1 (by simp),aa H3.out.2.1 gr1,H3.out.2.2.grown gr1,or1.seg,by have:=gr1.size;have:=H3.out.1.lt;omega⟩
 clear or1 gr1 H3 a0 a1
 go_wp2_with (at_builtin;refine bH _ rfl _ _ rfl (w.heap.size+1) _ F1 _ (sgn nb) rfl rfl H4.out.2.2.1 H4.out.2.2.2.1 ?c0 H4.out.2.2.2.2 ?_)
 case c0 =>
  have h1:=B1.out.1
  have h2:(sgn nb).length<=10:=bf HL.out.2.n0 HL.out.2.n1
  omega
 intro u2 q1 o2 g2 _
 obtain ⟨F2,hF2⟩:∃F,F1 ++ sgn nb=F:=⟨_,rfl⟩
 rw [hF2] at o2
 have B2:Hid (F2.length<=30/\F1 ++ sgn nb=F2):=⟨by
  have h1:=B1.out.1
  have h2:(sgn nb).length<=10:=bf HL.out.2.n0 HL.out.2.n1
  rw [<-hF2,List.length_append];omega,hF2⟩
 clear hF2
 have H3:Hid (Blk q1 w.heap.size 32 #[.int .i64 2,.int .i64 tk,.int .i64 ss,.int .i64 nb,.int .i64 mk,.slice ao n cp]/\w.grownBy q1 none/\Own q1 (w.heap.size+1) u2 F2):=by
  have hne:∀x,(u1:Value).ownBlock=some x->w.heap.size+1<=x:=fun x hx=>(H4.out.2.2.1.lt x hx).1
  exact ⟨H4.out.1.grown g2 (fun e=>by have:=hne _ e;omega),ah H4.out.2.1 g2 (fun x hx=>by have:=hne x hx;omega),o2⟩
 clear o2 g2 H4
 have a0:=H3.out.1.cell 0
 have a1:=H3.out.1.cell 4
 simp at a0 a1
 go_wp2_with fail
 refine (dSgn mk HL.out.2.m0 HL.out.2.m1 _).mono ?_
 rintro e p2 ⟨r2,rfl,or2,gr2⟩
 have H4:Hid (Blk p2 w.heap.size 32 #[.int .i64 2,.int .i64 tk,.int .i64 ss,.int .i64 nb,.int .i64 mk,.slice ao n cp]/\w.grownBy p2 none/\Own p2 (w.heap.size+1) u2 F2/\Seg p2 r2 (sgn mk)/\w.heap.size+1<=p2.heap.size):=⟨H3.out.1.grown gr2 (by simp),aa H3.out.2.1 gr2,H3.out.2.2.grown gr2,or2.seg,by have:=gr2.size;have:=H3.out.1.lt;omega⟩
 clear or2 gr2 H3 a0 a1
 go_wp2_with (at_builtin;refine bH _ rfl _ _ rfl (w.heap.size+1) _ F2 _ (sgn mk) rfl rfl H4.out.2.2.1 H4.out.2.2.2.1 ?c0 H4.out.2.2.2.2 ?_)
 case c0 =>
  have h1:=B2.out.1
  have h2:(sgn mk).length<=10:=bf HL.out.2.m0 HL.out.2.m1
  omega
 intro u3 q2 o3 g3 _
 obtain ⟨F3,hF3⟩:∃F,F2 ++ sgn mk=F:=⟨_,rfl⟩
 rw [hF3] at o3
 have B3:Hid (F3.length<=40/\F2 ++ sgn mk=F3):=⟨by
  have h1:=B2.out.1
  have h2:(sgn mk).length<=10:=bf HL.out.2.m0 HL.out.2.m1
  rw [<-hF3,List.length_append];omega,hF3⟩
 clear hF3
 have H3:Hid (Blk q2 w.heap.size 32 #[.int .i64 2,.int .i64 tk,.int .i64 ss,.int .i64 nb,.int .i64 mk,.slice ao n cp]/\w.grownBy q2 none/\Own q2 (w.heap.size+1) u3 F3):=by
  have hne:∀x,(u2:Value).ownBlock=some x->w.heap.size+1<=x:=fun x hx=>(H4.out.2.2.1.lt x hx).1
  exact ⟨H4.out.1.grown g3 (fun e=>by have:=hne _ e;omega),ah H4.out.2.1 g3 (fun x hx=>by have:=hne x hx;omega),o3⟩
 clear o3 g3 H4
 have HC:Hid (chk l=0):=hc
 clear hc
 have a0:=H3.out.1.cell 5
 simp at a0
 go_wp2_with fail
 refine (fB (.slice ao n cp) l _ (HL.out.1.grown H3.out.2.1) (chk0 HC.out).1).mono ?_
 rintro e v1 ⟨r9,rfl,o9,g9⟩
 have H4:Hid (w.grownBy v1 none/\Own v1 (w.heap.size+1) u3 F3/\Seg v1 r9 (aA l)/\w.heap.size+1<=v1.heap.size):=⟨aa H3.out.2.1 g9,H3.out.2.2.grown g9,o9.seg,by have:=g9.size;have:=H3.out.1.lt;omega⟩
 clear o9 g9 H3 a0
 obtain ⟨CF,hCF⟩:∃F,aA l=F:=⟨_,rfl⟩
 have BC:Hid (aA l=CF/\CF.length<=4096):=⟨hCF,by rw [<-hCF];exact (chk0 HC.out).2⟩
 rw [hCF] at H4
 clear hCF
 go_wp2_with fail
 refine (c9 r9 CF v1 H4.out.2.2.1 (by have:=BC.out.2;omega)).mono ?_
 rintro e v2 ⟨r7,rfl,o7,g7⟩
 have H5:Hid (w.grownBy v2 none/\Own v2 (w.heap.size+1) u3 F3/\Seg v2 r7 (ag CF)/\w.heap.size+1<=v2.heap.size):=⟨aa H4.out.1 g7,H4.out.2.1.grown g7,o7.seg,by have:=g7.size;have:=H4.out.2.2.2;omega⟩
 have bl:Hid ((ag CF).length<=4106):=by
  have h1:=BC.out.2
  have h2:=Wire.ay CF.length (by omega)
  unfold Hid ag
  rw [List.length_append];omega
 clear o7 g7 H4
 go_wp2_with (at_builtin;refine bH _ rfl _ _ rfl (w.heap.size+1) _ F3 _ (ag CF) rfl rfl H5.out.2.1 H5.out.2.2.1 ?c0 H5.out.2.2.2 ?_)
 case c0 =>
  have h1:=B3.out.1
  have h2:=bl.out
  omega
 intro u9 v3 o3 g3 _
 have H6:Hid (w.grownBy v3 none/\Own v3 w.heap.size u9 (F3 ++ ag CF)):=⟨ah H5.out.1 g3 (fun x hx=>by have:=(H5.out.2.1.lt x hx).1;omega),Own.mono o3 (by omega)⟩
 clear o3 g3 H5
 go_wp2_with fail
 go_ret
 have hE:aS (⟨2,tk,ss,nb,mk,l⟩:PCmd)=F3 ++ ag CF:=by
  rw [<-BC.out.1]
  rw [<-B3.out.2,<-B2.out.2,<-B1.out.2,<-B0.out.2]
  simp [aS,cB,dn,dA]
 refine ⟨_,rfl,?_,H6.out.1⟩
 rw [hE]
 exact H6.out.2
theorem rz (ao:Option Addr)(n cp:Nat)(tk ss nb mk:Int)(l:List POp)(w:World)(hl:Ops w (.slice ao n cp) l)(hI:InC (⟨3,tk,ss,nb,mk,l⟩:PCmd)):Calls Tryz.prog 44 #[cmdV (.slice ao n cp) (⟨3,tk,ss,nb,mk,l⟩:PCmd)] w (cy (aS (⟨3,tk,ss,nb,mk,l⟩:PCmd)) w):=by
 have HL:Hid (Ops w (.slice ao n cp) l/\InC (⟨3,tk,ss,nb,mk,l⟩:PCmd)):=⟨hl,hI⟩
 clear hl hI
 simp only [cmdV]
 go_enter Tryz.func44,Tryz.ntmps44
 go_wp2_with fail
 obtain ⟨W,hW,HW⟩:=al1 w #[.int .i64 3,.int .i64 tk,.int .i64 ss,.int .i64 nb,.int .i64 mk,.slice ao n cp] 32
 rw [hW]
 clear hW
 refine (dNum _ 3 rfl (by decide) _).mono ?_
 rintro e w2 ⟨u0,rfl,o0,gg2⟩
 have H3:Hid (Blk w2 w.heap.size 32 #[.int .i64 3,.int .i64 tk,.int .i64 ss,.int .i64 nb,.int .i64 mk,.slice ao n cp]/\w.grownBy w2 none/\Own w2 (w.heap.size+1) u0 (Wire.ai 3)):=⟨HW.out.1.grown gg2 (by simp),aa HW.out.2.1 gg2,Own.mono o0 (by have:=HW.out.2.2;omega)⟩
 clear gg2 o0 HW
 obtain ⟨F0,hF0⟩:∃F,Wire.ai 3=F:=⟨_,rfl⟩
 have B0:Hid (F0.length<=10/\Wire.ai 3=F0):=⟨by rw [<-hF0];exact Wire.ay _ (by decide),hF0⟩
 rw [hF0] at H3
 clear hF0
 have a0:=H3.out.1.cell 0
 have a1:=H3.out.1.cell 2
 simp at a0 a1
 go_wp2_with fail
 refine (dSgn ss HL.out.2.s0 HL.out.2.s1 _).mono ?_
 rintro e p0 ⟨r0,rfl,or0,gr0⟩
 have H4:Hid (Blk p0 w.heap.size 32 #[.int .i64 3,.int .i64 tk,.int .i64 ss,.int .i64 nb,.int .i64 mk,.slice ao n cp]/\w.grownBy p0 none/\Own p0 (w.heap.size+1) u0 F0/\Seg p0 r0 (sgn ss)/\w.heap.size+1<=p0.heap.size):=⟨H3.out.1.grown gr0 (by simp),aa H3.out.2.1 gr0,H3.out.2.2.grown gr0,or0.seg,by have:=gr0.size;have:=H3.out.1.lt;omega⟩
 clear or0 gr0 H3 a0 a1
 go_wp2_with (at_builtin;refine bH _ rfl _ _ rfl (w.heap.size+1) _ F0 _ (sgn ss) rfl rfl H4.out.2.2.1 H4.out.2.2.2.1 ?c0 H4.out.2.2.2.2 ?_)
 case c0 =>
  have h1:=B0.out.1
  have h2:(sgn ss).length<=10:=bf HL.out.2.s0 HL.out.2.s1
  omega
 intro u1 q0 o1 g1 _
 obtain ⟨F1,hF1⟩:∃F,F0 ++ sgn ss=F:=⟨_,rfl⟩
 rw [hF1] at o1
 have B1:Hid (F1.length<=20/\F0 ++ sgn ss=F1):=⟨by
  have h1:=B0.out.1
  have h2:(sgn ss).length<=10:=bf HL.out.2.s0 HL.out.2.s1
  rw [<-hF1,List.length_append];omega,hF1⟩
 clear hF1
 have H3:Hid (Blk q0 w.heap.size 32 #[.int .i64 3,.int .i64 tk,.int .i64 ss,.int .i64 nb,.int .i64 mk,.slice ao n cp]/\w.grownBy q0 none/\Own q0 (w.heap.size+1) u1 F1):=by
  have hne:∀x,(u0:Value).ownBlock=some x->w.heap.size+1<=x:=fun x hx=>(H4.out.2.2.1.lt x hx).1
  exact ⟨H4.out.1.grown g1 (fun e=>by have:=hne _ e;omega),ah H4.out.2.1 g1 (fun x hx=>by have:=hne x hx;omega),o1⟩
 clear o1 g1 H4
 go_wp2_with fail
 go_ret
 have hE:aS (⟨3,tk,ss,nb,mk,l⟩:PCmd)=F1:=by
  rw [<-B1.out.2,<-B0.out.2]
  simp [aS,cB,dn,dA]
 refine ⟨_,rfl,?_,H3.out.2.1⟩
 rw [hE]
 exact Own.mono H3.out.2.2 (by omega)
theorem rA (ao:Option Addr)(n cp:Nat)(tk ss nb mk:Int)(l:List POp)(w:World)(hl:Ops w (.slice ao n cp) l)(hI:InC (⟨4,tk,ss,nb,mk,l⟩:PCmd)):Calls Tryz.prog 44 #[cmdV (.slice ao n cp) (⟨4,tk,ss,nb,mk,l⟩:PCmd)] w (cy (aS (⟨4,tk,ss,nb,mk,l⟩:PCmd)) w):=by
 have HL:Hid (Ops w (.slice ao n cp) l/\InC (⟨4,tk,ss,nb,mk,l⟩:PCmd)):=⟨hl,hI⟩
 clear hl hI
 simp only [cmdV]
 go_enter Tryz.func44,Tryz.ntmps44
 go_wp2_with fail
 obtain ⟨W,hW,HW⟩:=al1 w #[.int .i64 4,.int .i64 tk,.int .i64 ss,.int .i64 nb,.int .i64 mk,.slice ao n cp] 32
 rw [hW]
 clear hW
 refine (dNum _ 4 rfl (by decide) _).mono ?_
 rintro e w2 ⟨u0,rfl,o0,gg2⟩
 have H3:Hid (Blk w2 w.heap.size 32 #[.int .i64 4,.int .i64 tk,.int .i64 ss,.int .i64 nb,.int .i64 mk,.slice ao n cp]/\w.grownBy w2 none/\Own w2 (w.heap.size+1) u0 (Wire.ai 4)):=⟨HW.out.1.grown gg2 (by simp),aa HW.out.2.1 gg2,Own.mono o0 (by have:=HW.out.2.2;omega)⟩
 clear gg2 o0 HW
 obtain ⟨F0,hF0⟩:∃F,Wire.ai 4=F:=⟨_,rfl⟩
 have B0:Hid (F0.length<=10/\Wire.ai 4=F0):=⟨by rw [<-hF0];exact Wire.ay _ (by decide),hF0⟩
 rw [hF0] at H3
 clear hF0
 have a0:=H3.out.1.cell 0
 have a1:=H3.out.1.cell 2
 simp at a0 a1
 go_wp2_with fail
 refine (dSgn ss HL.out.2.s0 HL.out.2.s1 _).mono ?_
 rintro e p0 ⟨r0,rfl,or0,gr0⟩
 have H4:Hid (Blk p0 w.heap.size 32 #[.int .i64 4,.int .i64 tk,.int .i64 ss,.int .i64 nb,.int .i64 mk,.slice ao n cp]/\w.grownBy p0 none/\Own p0 (w.heap.size+1) u0 F0/\Seg p0 r0 (sgn ss)/\w.heap.size+1<=p0.heap.size):=⟨H3.out.1.grown gr0 (by simp),aa H3.out.2.1 gr0,H3.out.2.2.grown gr0,or0.seg,by have:=gr0.size;have:=H3.out.1.lt;omega⟩
 clear or0 gr0 H3 a0 a1
 go_wp2_with (at_builtin;refine bH _ rfl _ _ rfl (w.heap.size+1) _ F0 _ (sgn ss) rfl rfl H4.out.2.2.1 H4.out.2.2.2.1 ?c0 H4.out.2.2.2.2 ?_)
 case c0 =>
  have h1:=B0.out.1
  have h2:(sgn ss).length<=10:=bf HL.out.2.s0 HL.out.2.s1
  omega
 intro u1 q0 o1 g1 _
 obtain ⟨F1,hF1⟩:∃F,F0 ++ sgn ss=F:=⟨_,rfl⟩
 rw [hF1] at o1
 have B1:Hid (F1.length<=20/\F0 ++ sgn ss=F1):=⟨by
  have h1:=B0.out.1
  have h2:(sgn ss).length<=10:=bf HL.out.2.s0 HL.out.2.s1
  rw [<-hF1,List.length_append];omega,hF1⟩
 clear hF1
 have H3:Hid (Blk q0 w.heap.size 32 #[.int .i64 4,.int .i64 tk,.int .i64 ss,.int .i64 nb,.int .i64 mk,.slice ao n cp]/\w.grownBy q0 none/\Own q0 (w.heap.size+1) u1 F1):=by
  have hne:∀x,(u0:Value).ownBlock=some x->w.heap.size+1<=x:=fun x hx=>(H4.out.2.2.1.lt x hx).1
  exact ⟨H4.out.1.grown g1 (fun e=>by have:=hne _ e;omega),ah H4.out.2.1 g1 (fun x hx=>by have:=hne x hx;omega),o1⟩
 clear o1 g1 H4
 go_wp2_with fail
 go_ret
 have hE:aS (⟨4,tk,ss,nb,mk,l⟩:PCmd)=F1:=by
  rw [<-B1.out.2,<-B0.out.2]
  simp [aS,cB,dn,dA]
 refine ⟨_,rfl,?_,H3.out.2.1⟩
 rw [hE]
 exact Own.mono H3.out.2.2 (by omega)
theorem gC (ov:Value)(c:PCmd)(w:World)(h:Ops w ov c.ops)(hI:InC c)(hk:okC c=true):Calls Tryz.prog 44 #[cmdV ov c] w (cy (aS c) w):=by
 have hk4:=dQ (fU hk)
 obtain ⟨ao,n,cp,rfl,_⟩:=aX h
 have hc:=kP hk
 obtain ⟨k,tk,ss,nb,mk,l⟩:=c
 simp only at hk4 hc
 rcases (show k=1\/k=2\/k=3\/k=4 by omega) with rfl | rfl | rfl | rfl
 ·exact rx ao n cp tk ss nb mk l w h hI
 ·exact ry ao n cp tk ss nb mk l w h hI (hc rfl)
 ·exact rz ao n cp tk ss nb mk l w h hI
 ·exact rA ao n cp tk ss nb mk l w h hI
end Go.Proofs.YtadhfejefpildaaGreat.Command
