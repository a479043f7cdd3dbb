import Derived.Test.YtgjcpjckaopeeaaGreatDoorCrrAll
import Derived.Test.YtgjcpjckaopeeaaGreatDoorKt
import Derived.Deep.DeepCutAuto
import Derived.Deep.CutBlock
set_option maxHeartbeats 32000000
set_option maxRecDepth 100000
namespace Go.Proofs.YtgjcpjckaopeeaaGreatDoor
open Go.RowKit Disk
open Go.Proofs.YtgjcpjckaopeeaaGreatDoor.Calls
open Names (Str)
structure RD (w:World)(d:Nat)(ao:Option Addr)(cap:Nat)(L:Bs)(k:Nat):Prop where
 rf:Blk w d 83 #[.slice ao L.length cap,.int .i64 k]
 seg:Seg w (.slice ao L.length cap) L
 le:k<=L.length
theorem RD.grown {w w':World}{d:Nat}{ao:Option Addr}{cap:Nat}{L:Bs}{k:Nat}(h:RD w d ao cap L k)(hg:w.grownBy w' none):RD w' d ao cap L k:=⟨h.rf.grown hg (by simp),h.seg.grown hg,h.le⟩
theorem rd {v:Value}{k:Nat}(h:∃a n c,v=.slice a n c):∀(j:Nat) (x:Int),(#[v,.int .i64 k]:Array Value)[j]?≠some (Value.int .u8 x):=by
 obtain ⟨a,n,c,rfl⟩:=h
 intro j x e
 rcases j with _ | _ | j <;> simp at e
theorem RD.at {w w':World}{d:Nat}{ao:Option Addr}{cap:Nat}{L:Bs}{k k':Nat}(h:RD w d ao cap L k)(hk:k'<=L.length)(hb:Blk w' d 83 #[.slice ao L.length cap,.int .i64 k'])(hg:w.grownBy w' (some d)):RD w' d ao cap L k':=⟨hb,gi h.seg h.rf (rd ⟨_,_,_,rfl⟩) hg,hk⟩
theorem RD.other {w w':World}{d g t:Nat}{ao:Option Addr}{cap:Nat}{L:Bs}{k:Nat}{c:Array Value}(h:RD w d ao cap L k)(hb:Blk w g t c)(h1:t≠83)(hc:∀(j:Nat) (x:Int),c[j]?≠some (Value.int .u8 x))(hg:w.grownBy w' (some g)):RD w' d ao cap L k:=by
 refine ⟨h.rf.grown hg ?_,gi h.seg hb hc hg,h.le⟩
 intro e
 simp at e
 subst e
 have h2:=h.rf
 unfold Blk at hb h2
 rw [hb] at h2
 simp at h2
 exact h1 h2.2
theorem re (d:Nat)(ao:Option Addr)(cap:Nat)(L:Bs)(k:Nat)(w:World)(h:RD w d ao cap L k):Calls Tryz.prog 51 #[.pointer (some ⟨d,0,none⟩)] w fun e w'=>∃(v er:Int) (k':Nat),e=.returned (.tuple #[.int .i64 v,.int .i64 er])/\-9223372036854775808<=v/\v<=9223372036854775807/\RD w' d ao cap L k'/\w.grownBy w' (some d)/\(∀m M,-9223372036854775808<=m->m<=9223372036854775807->L.drop k=sgn m ++ M->v=m/\er=0/\L.drop k'=M):=by
 have hlt:=Wire.gt (L.drop k)
 refine (Wire.lA d _ _ _ w (by omega) (Wire.fw d ao cap k L _ h.rf h.seg h.le)).mono ?_
 rintro e w1 ⟨rfl,k',hk',hM,hrf,hg⟩
 have hu:=jv (n:=(Wire.aU (L.drop k)).1) (by omega)
 refine ⟨_,_,k',rfl,hu.1,hu.2,h.at hk' hrf hg,hg,fun m M h0 h1 e=>?_⟩
 have hp:=dO h0 h1 M
 rw [<-e] at hp
 rcases ez (L.drop k) with ⟨_,_,h3,_⟩ | ⟨n,j,_,_,h2,h3,_⟩
 ·rw [h3] at hp
  cases hp
 ·rw [h3] at hp
  simp at hp
  rw [h2] at hM ⊢
  exact ⟨hp.1,rfl,by have h5:=hM;simp only [List.drop_drop] at h5;rw [h5];exact hp.2⟩
theorem oK (d:Nat)(ao:Option Addr)(cap:Nat)(L:Bs)(k:Nat)(w:World)(hr:Blk w d 83 #[.slice ao L.length cap,.int .i64 k])(hs:Seg w (.slice ao L.length cap) L)(hk:k<=L.length)(hz:L.length<=10000) :
  Calls Tryz.prog 52 #[.pointer (some ⟨d,0,none⟩),.int .i64 9000] w fun e w'=>∃v out er k',e=.returned (.tuple #[v,.int .i64 er])/\Own w' w.heap.size v out/\out.length<=L.length/\k'<=L.length/\Blk w' d 83 #[.slice ao L.length cap,.int .i64 k']/\w.grownBy w' (some d)/\(∀p M,p.length<=9000->L.drop k=ae p ++ M->out=p/\L.drop k'=M/\er=0):=by
 have hform:∀p M,p.length<=9000->L.drop k=ae p ++ M->Wire.scan 0 0 (L.drop k)=some (p.length,(Wire.ah p.length).length)/\L.drop (k+(Wire.ah p.length).length)=p ++ M/\p.length<=L.length-(k+(Wire.ah p.length).length):=by
  intro p M hp e
  unfold ae at e
  rw [List.append_assoc] at e
  refine ⟨by rw [e];exact Wire.gr _ (by omega) _,by rw [<-List.drop_drop,e,List.drop_left],?_⟩
  have:=congrArg List.length e
  simp at this
  omega
 cases hn:Wire.scan 0 0 (L.drop k) with
 | none =>
  refine (Wire.gA d ao cap k L 9000 w hr hs hk hn).mono ?_
  rintro e w' ⟨rfl,h1,h2⟩
  exact ⟨_,[],4,k,rfl,Own.nil _ _,by simp,hk,h1,h2,fun p M hp e=>by rw [(hform p M hp e).1] at hn;cases hn⟩
 | some y =>
  obtain ⟨n,m⟩:=y
  by_cases hl:(9000:Int)<(n:Int)
  ·refine (Wire.gB d ao cap k L 9000 w n m hr hs hk (by omega) (by omega) hn hl).mono ?_
   rintro e w' ⟨rfl,h1,h2⟩
   refine ⟨_,[],3,k,rfl,Own.nil _ _,by simp,hk,h1,h2,fun p M hp e=>?_⟩
   have:=(hform p M hp e).1
   rw [hn] at this
   simp at this
   omega
  ·by_cases hf:L.length-(k+m)<n
   ·refine (Wire.gZ d ao cap k L 9000 w n m hr hs hk (by omega) (by omega) hn hl hf).mono ?_
    rintro e w' ⟨rfl,h1,h2⟩
    refine ⟨_,[],4,k,rfl,Own.nil _ _,by simp,hk,h1,h2,fun p M hp e=>?_⟩
    obtain ⟨g1,_,g3⟩:=hform p M hp e
    rw [hn] at g1
    simp at g1
    obtain ⟨rfl,rfl⟩:=g1
    omega
   ·refine (Wire.jc d ao cap k L 9000 w n m hr hs hk (by omega) (by omega) hn hl hf (by omega)).mono ?_
    rintro e w' ⟨v,rfl,ho,h1,h2⟩
    have hb:=Wire.bX (L.drop k) 0 0 (by omega) (by simp) n m hn
    have hm:m<=(L.drop k).length:=by simp at hb ⊢;omega
    rw [List.length_drop] at hm
    refine ⟨v,_,0,k+m+n,rfl,ho,by simp;omega,by omega,h1,h2,fun p M hp e=>?_⟩
    obtain ⟨g1,g2,_⟩:=hform p M hp e
    rw [hn] at g1
    simp at g1
    obtain ⟨rfl,rfl⟩:=g1
    rw [g2]
    refine ⟨List.take_left,?_,rfl⟩
    rw [<-List.drop_drop,g2,List.drop_left]
theorem sV (d:Nat)(ao:Option Addr)(cap:Nat)(L:Bs)(k:Nat)(w:World)(h:RD w d ao cap L k)(hz:L.length<=10000):Calls Tryz.prog 52 #[.pointer (some ⟨d,0,none⟩),.int .i64 9000] w fun e w'=>∃v out er k',e=.returned (.tuple #[v,.int .i64 er])/\Own w' w.heap.size v out/\out.length<=L.length/\RD w' d ao cap L k'/\w.grownBy w' (some d)/\(∀p M,p.length<=9000->L.drop k=ae p ++ M->out=p/\L.drop k'=M/\er=0):=by
 refine (oK d ao cap L k w h.rf h.seg h.le hz).mono ?_
 rintro e w' ⟨v,out,er,k',rfl,ho,hl,hk,hb,hg,hs⟩
 exact ⟨v,out,er,k',rfl,ho,hl,h.at hk hb hg,hg,hs⟩
def gp (L:Bs)(c:PCmd)(ok:Bool):Prop:=∀d,okC d=true->InC d->L=aY d->c=d/\ok=true
theorem fp {L:Bs}{c:PCmd}{ok:Bool}(h:gp L c ok)(hn:ok=true->okC c=true->aY c≠L):cg L=(bj,4):=by
 unfold cg
 cases hp:pCmd L with
 | none=>rfl
 | some d =>
  obtain ⟨h1,h2,h3⟩:=qg hp
  obtain ⟨e1,e2⟩:=h d h1 h3 h2
  subst e1
  exact absurd h2.symm (hn e2 h1)
theorem jE {d:PCmd}(h:okC d=true):∃r,aY d=Wire.ah d.kind.toNat ++ r/\d.kind.toNat<=4/\1<=d.kind.toNat:=by
 have hk:=cf (cT h)
 exact ⟨_,by unfold aY cM dG;rw [List.append_assoc],by omega,by omega⟩
theorem uP {d:PCmd}(h:d.kind=1):aY d=Wire.ah 1 ++ (sgn d.token ++ []):=by
 unfold aY cM dG bK
 rw [if_pos h,if_neg (by omega),h]
 simp
theorem ul {d:PCmd}{k:Nat}(h:d.kind=k)(hk:k=3\/k=4):aY d=Wire.ah k ++ (sgn d.session ++ []):=by
 unfold aY cM dG bK
 rw [h,if_neg (by omega),if_neg (by omega),if_pos (by omega),if_neg (by omega)]
 simp
theorem uQ {d:PCmd}(h:d.kind=2):aY d=Wire.ah 2 ++ (sgn d.session ++ (sgn d.number ++ (sgn d.mark ++ (ae (an d.ops) ++ [])))):=by
 unfold aY cM dG bK
 rw [h,if_neg (by omega),if_pos rfl,if_pos rfl]
 simp
theorem rg {L:Bs}{c:PCmd}{b:Bool}(h:(Wire.aU L).1<1):gp L c b:=fun d hd _ e=>by
 obtain ⟨r,h1,h2,h3⟩:=jE hd
 rw [h1] at e
 rw [dy (by omega) e] at h
 have h':d.kind.toNat<1:=h
 omega
theorem eS {L:Bs}{k:Nat}(h:(Wire.aU L).1=k){d:PCmd}(hd:okC d=true)(e:L=aY d):d.kind=k:=by
 obtain ⟨r,h1,h2,h3⟩:=jE hd
 rw [h1] at e
 rw [dy (by omega) e] at h
 have h':d.kind.toNat=k:=h
 omega
theorem um {L:Bs}{n:Int}{b:Bool}(h:(Wire.aU L).1=1)(hS:∀m M,-9223372036854775808<=m->m<=9223372036854775807->(Wire.aU L).2.2=sgn m ++ M->n=m/\b=true):gp L ⟨1,n,0,0,0,[]⟩ b:=fun d hd hi e=>by
 have hk:=eS h hd e
 rw [uP hk] at e
 obtain ⟨e1,e2⟩:=hS _ _ hi.t0 hi.t1 (by rw [dy (by omega) e])
 refine ⟨?_,e2⟩
 rcases (d8 d).1 hd with x | x | x
 ·exact PCmd.ext'.2 ⟨hk.symm,e1,x.2.2.1.symm,x.2.2.2.1.symm,x.2.2.2.2.1.symm,x.2.2.2.2.2.symm⟩
 ·omega
 ·omega
theorem sW {L:Bs}{n:Int}{b:Bool}{k:Nat}(h34:k=3\/k=4)(h:(Wire.aU L).1=k)(hS:∀m M,-9223372036854775808<=m->m<=9223372036854775807->(Wire.aU L).2.2=sgn m ++ M->n=m/\b=true):gp L ⟨k,0,n,0,0,[]⟩ b:=fun d hd hi e=>by
 have hk:=eS h hd e
 rw [ul hk h34] at e
 obtain ⟨e1,e2⟩:=hS _ _ hi.s0 hi.s1 (by rw [dy (by omega) e])
 refine ⟨?_,e2⟩
 rcases (d8 d).1 hd with x | x | x
 ·omega
 ·omega
 ·exact PCmd.ext'.2 ⟨hk.symm,x.2.1.symm,e1,x.2.2.2.1.symm,x.2.2.2.2.1.symm,x.2.2.2.2.2.symm⟩
theorem uo {L X:Bs}{a b c e1 e2 e3 e4 e5:Int}{k2 k3 k4:Nat}{l:List POp}(h:(Wire.aU L).1=2)(h1:∀m M,-9223372036854775808<=m->m<=9223372036854775807->(Wire.aU L).2.2=sgn m ++ M->a=m/\e1=0/\L.drop k2=M)(h2:∀m M,-9223372036854775808<=m->m<=9223372036854775807->L.drop k2=sgn m ++ M->b=m/\e2=0/\L.drop k3=M)(h3:∀m M,-9223372036854775808<=m->m<=9223372036854775807->L.drop k3=sgn m ++ M->c=m/\e3=0/\L.drop k4=M)(h4:∀p M,p.length<=9000->L.drop k4=ae p ++ M->X=p/\e4=0)(h5:bN X=(l,e5)):gp L ⟨2,0,a,b,c,l⟩ (e1==0 && e2==0 && e3==0 && e4==0 && e5==0):=fun d hd hi e=>by
 have hk:=eS h hd e
 rw [uQ hk] at e
 obtain ⟨a1,a2,a3⟩:=h1 _ _ hi.s0 hi.s1 (by rw [dy (by omega) e])
 obtain ⟨b1,b2,b3⟩:=h2 _ _ hi.n0 hi.n1 a3
 obtain ⟨c1,c2,c3⟩:=h3 _ _ hi.m0 hi.m1 b3
 rcases (d8 d).1 hd with x | x | x
 ·omega
 ·have hc:=chk0 x.2.2.2.2.2.2
  obtain ⟨d1,d2⟩:=h4 _ _ (by have:=hc.2;omega) c3
  rw [d1,lE x.2.2.2.2.2.2] at h5
  injection h5 with g1 g2
  refine ⟨PCmd.ext'.2 ⟨hk.symm,x.2.1.symm,a1,b1,c1,g1.symm⟩,?_⟩
  rw [a2,b2,c2,d2,<-g2]
  rfl
 ·omega
theorem rh {L:Bs}{n:Int}{b:Bool}{k:Nat}(h034:k=0\/k=3\/k=4)(h:(Wire.aU L).1=k)(hS:∀m M,-9223372036854775808<=m->m<=9223372036854775807->(Wire.aU L).2.2=sgn m ++ M->n=m/\b=true):gp L ⟨k,0,n,0,0,[]⟩ b:=by
 rcases h034 with h0 | h34
 ·exact rg (by rw [h];omega)
 ·exact sW h34 h hS
theorem ri (k:Nat)(hk:k<=4)(ao:Option Addr)(cap:Nat)(L:Bs)(w:World)(hs:Seg w (.slice ao L.length cap) L)(hz:L.length<=6000)(hn:(Wire.aU L).1=k)(he:(Wire.aU L).2.1=0):Calls Tryz.prog 20 #[(.slice ao L.length cap)] w (d9 w (cg L)):=by
 have HV:Hid (Seg w (.slice ao L.length cap) L/\L.length<=6000/\(Wire.aU L).1=k):=⟨hs,hz,hn⟩
 clear hs
 go_enter Tryz.func20,Tryz.ntmps20
 go_wp2_with fail
 obtain ⟨W,hW,HW⟩:=al2' w #[.int .i64 0,.int .i64 0,.int .i64 0,.int .i64 0,.int .i64 0,.slice none 0 0] #[(.slice ao L.length cap),.int .i64 0] 27 83
 rw [hW]
 clear hW
 have R0:RD W (w.heap.size+1) ao cap L 0:=⟨HW.out.2.1,HV.out.1.grown HW.out.2.2.1,by omega⟩
 refine (Wire.fw (w.heap.size+1) ao cap 0 L W R0.rf R0.seg R0.le).mono ?_
 rintro e W1 ⟨rfl,k1,hk1,hM,hrf,hg⟩
 rw [List.drop_zero] at hM ⊢
 rw [hn,he]
 have HK:Hid (k<=4):=hk
 have q5:((4:Int)<(k:Int))=False:=eq_false (by omega)
 have q6:(4<k)=False:=eq_false (by omega)
 have q7:IntKind.i64.wrap (k:Int)=(k:Int):=by
  unfold IntKind.wrap
  simp [IntKind.bits,IntKind.signed]
  omega
 clear hk
 have H1:Hid (Blk W1 w.heap.size 27 #[.int .i64 0,.int .i64 0,.int .i64 0,.int .i64 0,.int .i64 0,.slice none 0 0]/\RD W1 (w.heap.size+1) ao cap L k1/\w.grownBy W1 none/\L.drop k1=(Wire.aU L).2.2/\w.heap.size+2<=W1.heap.size):=⟨HW.out.1.grown hg (by simp),R0.at hk1 hrf hg,ag HW.out.2.2.1 hg (fun x hx=>by simp at hx;omega),hM,by have:=hg.size;have:=HW.out.2.2.2;omega⟩
 clear hM hrf hg R0 HW hn he hk1
 go_upto_region 6 with fail
 obtain ⟨W2,hW2,H2⟩:=al1 W1 #[.int .i64 (k:Int),.int .i64 0,.int .i64 0,.int .i64 0,.int .i64 0,.slice none 0 0] 27
 rw [hW2]
 clear hW2
 obtain ⟨tc,htc⟩:∃t,W1.heap.size=t:=⟨_,rfl⟩
 rw [htc] at H1 H2 ⊢
 clear htc
 go_wp2_with fail
 refine (re (w.heap.size+1) ao cap L k1 W2 (H1.out.2.1.grown H2.out.2.1)).mono ?_
 rintro e W3 ⟨n,er,k2,rfl,n0,n1,hR,hg,hS⟩
 have H3:Hid (Blk W3 w.heap.size 27 #[.int .i64 0,.int .i64 0,.int .i64 0,.int .i64 0,.int .i64 0,.slice none 0 0]/\Blk W3 tc 27 #[.int .i64 (k:Int),.int .i64 0,.int .i64 0,.int .i64 0,.int .i64 0,.slice none 0 0]/\w.grownBy W3 none/\RD W3 (w.heap.size+1) ao cap L k2/\w.heap.size+2<=tc/\tc<W3.heap.size/\-9223372036854775808<=n/\n<=9223372036854775807):=⟨(H1.out.1.grown H2.out.2.1 (by simp)).grown hg (by simp),H2.out.1.grown hg (fun e=>by simp at e;have:=H1.out.2.2.2.2;omega),ag (aa H1.out.2.2.1 H2.out.2.1) hg (fun x hx=>by simp at hx;omega),hR,H1.out.2.2.2.2,by have:=hg.size;have:=H2.out.2.2;omega,n0,n1⟩
 have HS:Hid (∀m M,-9223372036854775808<=m->m<=9223372036854775807->(Wire.aU L).2.2=sgn m ++ M->n=m/\er=0/\L.drop k2=M):=fun m M a b e=>hS m M a b (H1.out.2.2.2.1.trans e)
 clear n0 n1 hR hg hS H1 H2
 obtain ⟨ob,hob⟩:∃b:Bool,(er==0)=b:=⟨_,rfl⟩
 have HOB:Hid ((er==0)=ob/\(er=0->ob=true)):=⟨hob,fun h=>by rw [<-hob,h];rfl⟩
 have u2:(er=0)=(ob=true):=by rw [<-hob];simp
 have p0:=H3.out.2.1.cell 0
 have p1:=H3.out.2.1.cell 1
 have p2:=H3.out.2.1.cell 2
 have p3:=H3.out.2.1.cell 3
 have p4:=H3.out.2.1.cell 4
 have p5:=H3.out.2.1.cell 5
 have f0:=H3.out.2.1.free 0
 have f1:=H3.out.2.1.free 1
 have f2:=H3.out.2.1.free 2
 have f3:=H3.out.2.1.free 3
 have f4:=H3.out.2.1.free 4
 have f5:=H3.out.2.1.free 5
 simp at p0 p1 p2 p3 p4 p5
 go_upto_block 0 with fail
 go_cut [9] (fun x wc=>∃(c:PCmd) (o1:Option Addr) (o2 o3:Nat) (okb:Bool),x=.bool okb/\Hid (Blk wc w.heap.size 27 #[.int .i64 0,.int .i64 0,.int .i64 0,.int .i64 0,.int .i64 0,.slice none 0 0]/\Blk wc tc 27 #[.int .i64 c.kind,.int .i64 c.token,.int .i64 c.session,.int .i64 c.number,.int .i64 c.mark,.slice o1 o2 o3]/\w.grownBy wc none/\am wc w.heap.size (.slice o1 o2 o3) c.ops/\Seg wc (.slice ao L.length cap) L/\InC c/\gp L c okb))
 case first =>
  by_cases h1:k=1
  ·skip
   have hk1:k=1:=h1
   clear h1
   subst hk1
   go_wp2_with fail
   obtain ⟨Wt,hWt⟩:∃y,W3.setCell ⟨tc,1,none⟩ (.int .i64 n)=y:=⟨_,rfl⟩
   have hg:W3.grownBy Wt (some tc):=by rw [<-hWt];exact ab _ _ _ _
   have hst:=H3.out.2.1.store 1 (.int .i64 n)
   rw [hWt] at hst ⊢
   go_meet
   case rel =>
    refine ⟨⟨1,n,0,0,0,[]⟩,none,0,0,ob,rfl,H3.out.1.grown hg (fun e=>by simp at e;have:=H3.out.2.2.2.2.1;omega),by simpa using hst,ag H3.out.2.2.1 hg (fun x hx=>by simp at hx;have:=H3.out.2.2.2.2.1;omega),⟨aD _ _,by simp⟩,(H3.out.2.2.2.1.other H3.out.2.1 (by decide) (fun j x e=>by rcases j with _ | _ | _ | _ | _ | _ | j <;> simp at e) hg).seg,?_,um HV.out.2.2 (fun m M a b e=>⟨(HS.out m M a b e).1,HOB.out.2 (HS.out m M a b e).2.1⟩)⟩
    have a0:=H3.out.2.2.2.2.2.2.1
    have a1:=H3.out.2.2.2.2.2.2.2
    have a2:=HK.out
    constructor <;> first | exact a0 | exact a1 | (dsimp only;omega)
  by_cases h2:k=2
  ·skip
   have hk2:k=2:=h2
   have hob2:=HOB.out.1
   clear HOB u2
   subst hob2
   clear h1 h2 p0 p1 p2 p3 p4 p5 f0 f1 f2 f3 f4 f5
   subst hk2
   have HB1:Hid (-9223372036854775808<=n/\n<=9223372036854775807/\w.heap.size+2<=tc):=⟨H3.out.2.2.2.2.2.2.1,H3.out.2.2.2.2.2.2.2,H3.out.2.2.2.2.1⟩
   have J3:Hid (Blk W3 w.heap.size 27 #[.int .i64 0,.int .i64 0,.int .i64 0,.int .i64 0,.int .i64 0,.slice none 0 0]/\Blk W3 tc 27 #[.int .i64 2,.int .i64 0,.int .i64 0,.int .i64 0,.int .i64 0,.slice none 0 0]/\w.grownBy W3 none/\RD W3 (w.heap.size+1) ao cap L k2/\tc<W3.heap.size):=⟨H3.out.1,H3.out.2.1,H3.out.2.2.1,H3.out.2.2.2.1,H3.out.2.2.2.2.2.1⟩
   clear H3
   have p0:=J3.out.2.1.cell 0
   have p1:=J3.out.2.1.cell 1
   have p2:=J3.out.2.1.cell 2
   have p3:=J3.out.2.1.cell 3
   have p4:=J3.out.2.1.cell 4
   have p5:=J3.out.2.1.cell 5
   have f0:=J3.out.2.1.free 0
   have f1:=J3.out.2.1.free 1
   have f2:=J3.out.2.1.free 2
   have f3:=J3.out.2.1.free 3
   have f4:=J3.out.2.1.free 4
   have f5:=J3.out.2.1.free 5
   simp at p0 p1 p2 p3 p4 p5
   go_wp2_with fail
   refine (re (w.heap.size+1) ao cap L k2 W3 J3.out.2.2.2.1).mono ?_
   rintro e W4 ⟨n2,er2,k3,rfl,n0,n1,hR,hg,hS⟩
   have J4:Hid (Blk W4 w.heap.size 27 #[.int .i64 0,.int .i64 0,.int .i64 0,.int .i64 0,.int .i64 0,.slice none 0 0]/\Blk W4 tc 27 #[.int .i64 2,.int .i64 0,.int .i64 0,.int .i64 0,.int .i64 0,.slice none 0 0]/\w.grownBy W4 none/\RD W4 (w.heap.size+1) ao cap L k3/\tc<W4.heap.size):=⟨J3.out.1.grown hg (by simp),J3.out.2.1.grown hg (fun e=>by simp at e;have:=HB1.out.2.2;omega),ag J3.out.2.2.1 hg (fun x hx=>by simp at hx;omega),hR,by have:=hg.size;have:=J3.out.2.2.2.2;omega⟩
   have HB2:Hid (-9223372036854775808<=n2/\n2<=9223372036854775807):=⟨n0,n1⟩
   have HS2:Hid (∀m M,-9223372036854775808<=m->m<=9223372036854775807->L.drop k2=sgn m ++ M->n2=m/\er2=0/\L.drop k3=M):=hS
   clear n0 n1 hR hg hS J3 p0 p1 p2 p3 p4 p5 f0 f1 f2 f3 f4 f5
   have p0:=J4.out.2.1.cell 0
   have p1:=J4.out.2.1.cell 1
   have p2:=J4.out.2.1.cell 2
   have p3:=J4.out.2.1.cell 3
   have p4:=J4.out.2.1.cell 4
   have p5:=J4.out.2.1.cell 5
   have f0:=J4.out.2.1.free 0
   have f1:=J4.out.2.1.free 1
   have f2:=J4.out.2.1.free 2
   have f3:=J4.out.2.1.free 3
   have f4:=J4.out.2.1.free 4
   have f5:=J4.out.2.1.free 5
   simp at p0 p1 p2 p3 p4 p5
   go_wp2_with fail
   refine (re (w.heap.size+1) ao cap L k3 W4 J4.out.2.2.2.1).mono ?_
   rintro e W5 ⟨n3,er3,k4,rfl,n0,n1,hR,hg,hS⟩
   have J5:Hid (Blk W5 w.heap.size 27 #[.int .i64 0,.int .i64 0,.int .i64 0,.int .i64 0,.int .i64 0,.slice none 0 0]/\Blk W5 tc 27 #[.int .i64 2,.int .i64 0,.int .i64 0,.int .i64 0,.int .i64 0,.slice none 0 0]/\w.grownBy W5 none/\RD W5 (w.heap.size+1) ao cap L k4/\tc<W5.heap.size):=⟨J4.out.1.grown hg (by simp),J4.out.2.1.grown hg (fun e=>by simp at e;have:=HB1.out.2.2;omega),ag J4.out.2.2.1 hg (fun x hx=>by simp at hx;omega),hR,by have:=hg.size;have:=J4.out.2.2.2.2;omega⟩
   have HB3:Hid (-9223372036854775808<=n3/\n3<=9223372036854775807):=⟨n0,n1⟩
   have HS3:Hid (∀m M,-9223372036854775808<=m->m<=9223372036854775807->L.drop k3=sgn m ++ M->n3=m/\er3=0/\L.drop k4=M):=hS
   clear n0 n1 hR hg hS J4 p0 p1 p2 p3 p4 p5 f0 f1 f2 f3 f4 f5
   go_wp2_with fail
   refine (sV (w.heap.size+1) ao cap L k4 W5 J5.out.2.2.2.1 (by have:=HV.out.2.1;omega)).mono ?_
   rintro e W6 ⟨v,X,er4,k5,rfl,ho,hl,hR,hg,hS⟩
   obtain ⟨vx,vn,vy,rfl⟩:=aq ho
   have J6:Hid (Blk W6 w.heap.size 27 #[.int .i64 0,.int .i64 0,.int .i64 0,.int .i64 0,.int .i64 0,.slice none 0 0]/\Blk W6 tc 27 #[.int .i64 2,.int .i64 0,.int .i64 0,.int .i64 0,.int .i64 0,.slice none 0 0]/\w.grownBy W6 none/\RD W6 (w.heap.size+1) ao cap L k5/\tc<W6.heap.size):=⟨J5.out.1.grown hg (by simp),J5.out.2.1.grown hg (fun e=>by simp at e;have:=HB1.out.2.2;omega),ag J5.out.2.2.1 hg (fun x hx=>by simp at hx;omega),hR,by have:=hg.size;have:=J5.out.2.2.2.2;omega⟩
   have HS4:Hid ((∀p M,p.length<=9000->L.drop k4=ae p ++ M->X=p/\er4=0)/\X.length<=10000/\Seg W6 (.slice vx vn vy) X):=⟨fun p M a b=>⟨(hS p M a b).1,(hS p M a b).2.2⟩,by have:=HV.out.2.1;omega,ho.seg⟩
   clear ho hl hR hg hS J5
   go_wp2_with fail
   refine (tT (.slice vx vn vy) X W6 HS4.out.2.2 HS4.out.2.1).mono ?_
   rintro e W7 ⟨u,rfl,ho,hg⟩
   obtain ⟨ox,on,oy,rfl⟩:∃a n b,u=.slice a n b:=by obtain ⟨a,n,b,e,_⟩:=aJ ho.ops;exact ⟨a,n,b,e⟩
   have J7:Hid (Blk W7 w.heap.size 27 #[.int .i64 0,.int .i64 0,.int .i64 0,.int .i64 0,.int .i64 0,.slice none 0 0]/\Blk W7 tc 27 #[.int .i64 2,.int .i64 0,.int .i64 0,.int .i64 0,.int .i64 0,.slice none 0 0]/\w.grownBy W7 none/\RD W7 (w.heap.size+1) ao cap L k5/\tc<W7.heap.size):=⟨J6.out.1.grown hg (by simp),J6.out.2.1.grown hg (by simp),aa J6.out.2.2.1 hg,J6.out.2.2.2.1.grown hg,by have:=hg.size;have:=J6.out.2.2.2.2;omega⟩
   obtain ⟨l,hl⟩:∃l,(bN X).1=l:=⟨_,rfl⟩
   obtain ⟨er5,h5⟩:∃l,(bN X).2=l:=⟨_,rfl⟩
   rw [hl] at ho
   rw [h5]
   have HO7:Hid (am W7 w.heap.size (.slice ox on oy) l/\bN X=(l,er5)):=⟨ho.mono J6.out.2.2.1.size,by rw [<-hl,<-h5]⟩
   clear ho hg hl h5 J6
   go_upto_region 17 with fail
   obtain ⟨W8,hW8,H8⟩:=al1 W7 #[.slice ox on oy] 25
   rw [hW8]
   clear hW8
   obtain ⟨ta,hta⟩:∃t,W7.heap.size=t:=⟨_,rfl⟩
   have HA:Hid (W7.heap.size=ta):=hta
   rw [hta] at H8 ⊢
   clear hta
   have J8:Hid (Blk W8 w.heap.size 27 #[.int .i64 0,.int .i64 0,.int .i64 0,.int .i64 0,.int .i64 0,.slice none 0 0]/\Blk W8 tc 27 #[.int .i64 2,.int .i64 0,.int .i64 0,.int .i64 0,.int .i64 0,.slice none 0 0]/\w.grownBy W8 none/\RD W8 (w.heap.size+1) ao cap L k5/\tc<W8.heap.size):=⟨J7.out.1.grown H8.out.2.1 (by simp),J7.out.2.1.grown H8.out.2.1 (by simp),aa J7.out.2.2.1 H8.out.2.1,J7.out.2.2.2.1.grown H8.out.2.1,by have:=J7.out.2.2.2.2;have:=H8.out.2.2;have:=HA.out;omega⟩
   have J9:Hid (Blk W8 ta 25 #[.slice ox on oy]/\am W8 w.heap.size (.slice ox on oy) l/\tc<ta):=⟨H8.out.1,HO7.out.1.grown H8.out.2.1,by rw [<-HA.out];exact J7.out.2.2.2.2⟩
   have HCd:Hid (gp L ⟨2,0,n,n2,n3,l⟩ (er==0 && er2==0 && er3==0 && er4==0 && er5==0)):=uo HV.out.2.2 HS.out HS2.out HS3.out HS4.out.1 HO7.out.2
   clear J7 H8 HA HO7 HS HS2 HS3 HS4
   obtain ⟨okb,hokb⟩:∃b:Bool,(er==0 && er2==0 && er3==0 && er4==0 && er5==0)=b:=⟨_,rfl⟩
   rw [hokb] at HCd
   have HOK:Hid ((er==0 && er2==0 && er3==0 && er4==0 && er5==0)=okb):=hokb
   clear hokb
   go_cut [9] (fun x wc=>x=.bool okb/\wc=W8)
   case first =>
    clear HCd J8 J9
    by_cases h0:er=0
    rotate_left
    ·have q1:(er==0)=false:=by simpa using h0
     have q2:(er=0)=False:=eq_false h0
     go_wp2_with fail
     all_goals go_meet
     all_goals (refine ⟨?_,rfl⟩;rw [<-HOK.out];simp [q1])
    subst h0
    by_cases h1:er2=0
    rotate_left
    ·have q1:(er2==0)=false:=by simpa using h1
     have q2:(er2=0)=False:=eq_false h1
     go_wp2_with fail
     all_goals go_meet
     all_goals (refine ⟨?_,rfl⟩;rw [<-HOK.out];simp [q1])
    subst h1
    by_cases h2:er3=0
    rotate_left
    ·have q1:(er3==0)=false:=by simpa using h2
     have q2:(er3=0)=False:=eq_false h2
     go_wp2_with fail
     all_goals go_meet
     all_goals (refine ⟨?_,rfl⟩;rw [<-HOK.out];simp [q1])
    subst h2
    by_cases h3:er4=0
    rotate_left
    ·have q1:(er4==0)=false:=by simpa using h3
     have q2:(er4=0)=False:=eq_false h3
     go_wp2_with fail
     all_goals go_meet
     all_goals (refine ⟨?_,rfl⟩;rw [<-HOK.out];simp [q1])
    subst h3
    by_cases h4:er5=0
    rotate_left
    ·have q1:(er5==0)=false:=by simpa using h4
     have q2:(er5=0)=False:=eq_false h4
     go_wp2_with fail
     all_goals go_meet
     all_goals (refine ⟨?_,rfl⟩;rw [<-HOK.out];simp [q1])
    subst h4
    go_wp2_with fail
    all_goals go_meet
    all_goals (refine ⟨?_,rfl⟩;rw [<-HOK.out];simp)
   case rest =>
    obtain ⟨rfl,rfl⟩:=hcut
    refine (‹∀(a:Act) (w:World),Code.wp Tryz.prog _ _ a w->_› _ _ ?_)
    have HC:Hid (∀y:World,wc.grownBy y (some tc)->y.cell? ⟨ta,0,none⟩=some (.slice ox on oy)):=fun y hy=>(J9.out.1.grown hy (fun e=>by simp at e;have:=J9.out.2.2;omega)).cell 0
    refine wp_region_noPanic ?_
    refine aj 1000 (fun y=>wc.grownBy y (some tc)) (by kernel_rfl) ?_
    have G0:Hid (wc.grownBy wc.drew (some tc)):=aF (ac _ none) _
    have B0:Hid (Blk wc.drew tc 27 #[.int .i64 2,.int .i64 0,.int .i64 0,.int .i64 0,.int .i64 0,.slice none 0 0]):=J8.out.2.1.grown (ac _ none) (by simp)
    generalize wc.drew=wq0 at G0 B0 ⊢
    have J:Idx [0,1,2,3,4]:=trivial
    iterate 5 (refine tK J (G0.out) rfl rfl (fun wk hk=>by have m0:=HC.out wk hk;go_simp;try rfl) ?_;replace J:=J.tl;try simp only [pN])
    refine wO 5 rfl fun K hK=>?_
    have cc:=B0.out.cell 2
    have cz:=B0.out.free 2
    simp at cc
    go_wp2_with fail
    refine hK.out _ _ (fun _=>aa G0.out (ab _ _ _ _)) ?_
    clear hK K cc cz
    have G1:Hid (wc.grownBy (wq0.setCell ⟨tc,2,none⟩ (.int .i64 n)) (some tc)):=aa G0.out (ab _ _ _ _)
    have B1:Hid (Blk (wq0.setCell ⟨tc,2,none⟩ (.int .i64 n)) tc 27 #[.int .i64 2,.int .i64 0,.int .i64 n,.int .i64 0,.int .i64 0,.slice none 0 0]):=B0.out.store 2 _
    generalize wq0.setCell ⟨tc,2,none⟩ (.int .i64 n)=wq1 at G1 B1 ⊢
    try simp only [pN]
    refine tS 6 (G1.out) rfl rfl (fun wk hk=>by have m0:=HC.out wk hk;go_simp;try rfl) ?_
    try simp only [pN]
    refine wO 7 rfl fun K hK=>?_
    have cc:=B1.out.cell 3
    have cz:=B1.out.free 3
    simp at cc
    go_wp2_with fail
    refine hK.out _ _ (fun _=>aa G1.out (ab _ _ _ _)) ?_
    clear hK K cc cz
    have G2:Hid (wc.grownBy (wq1.setCell ⟨tc,3,none⟩ (.int .i64 n2)) (some tc)):=aa G1.out (ab _ _ _ _)
    have B2:Hid (Blk (wq1.setCell ⟨tc,3,none⟩ (.int .i64 n2)) tc 27 #[.int .i64 2,.int .i64 0,.int .i64 n,.int .i64 n2,.int .i64 0,.slice none 0 0]):=B1.out.store 3 _
    generalize wq1.setCell ⟨tc,3,none⟩ (.int .i64 n2)=wq2 at G2 B2 ⊢
    try simp only [pN]
    refine tS 8 (G2.out) rfl rfl (fun wk hk=>by have m0:=HC.out wk hk;go_simp;try rfl) ?_
    try simp only [pN]
    refine wO 9 rfl fun K hK=>?_
    have cc:=B2.out.cell 4
    have cz:=B2.out.free 4
    simp at cc
    go_wp2_with fail
    refine hK.out _ _ (fun _=>aa G2.out (ab _ _ _ _)) ?_
    clear hK K cc cz
    have G3:Hid (wc.grownBy (wq2.setCell ⟨tc,4,none⟩ (.int .i64 n3)) (some tc)):=aa G2.out (ab _ _ _ _)
    have B3:Hid (Blk (wq2.setCell ⟨tc,4,none⟩ (.int .i64 n3)) tc 27 #[.int .i64 2,.int .i64 0,.int .i64 n,.int .i64 n2,.int .i64 n3,.slice none 0 0]):=B2.out.store 4 _
    generalize wq2.setCell ⟨tc,4,none⟩ (.int .i64 n3)=wq3 at G3 B3 ⊢
    try simp only [pN]
    refine tS 10 (G3.out) rfl rfl (fun wk hk=>by have m0:=HC.out wk hk;go_simp;try rfl) ?_
    try simp only [pN]
    refine wO 11 rfl fun K hK=>?_
    have cc:=B3.out.cell 5
    have cz:=B3.out.free 5
    simp at cc
    go_wp2_with fail
    refine hK.out _ _ (fun _=>aa G3.out (ab _ _ _ _)) ?_
    clear hK K cc cz
    have G4:Hid (wc.grownBy (wq3.setCell ⟨tc,5,none⟩ (.slice ox on oy)) (some tc)):=aa G3.out (ab _ _ _ _)
    have B4:Hid (Blk (wq3.setCell ⟨tc,5,none⟩ (.slice ox on oy)) tc 27 #[.int .i64 2,.int .i64 0,.int .i64 n,.int .i64 n2,.int .i64 n3,.slice ox on oy]):=B3.out.store 5 _
    generalize wq3.setCell ⟨tc,5,none⟩ (.slice ox on oy)=wq4 at G4 B4 ⊢
    try simp only [pN]
    refine wD ?_
    simp only [NoPanic,Exit.inBlock,Exit.then]
    obtain ⟨Wt,hWt⟩:∃y,y=wq4:=⟨_,rfl⟩
    subst hWt
    have HT:Hid (Blk Wt w.heap.size 27 #[.int .i64 0,.int .i64 0,.int .i64 0,.int .i64 0,.int .i64 0,.slice none 0 0]/\Blk Wt tc 27 #[.int .i64 2,.int .i64 0,.int .i64 n,.int .i64 n2,.int .i64 n3,.slice ox on oy]/\w.grownBy Wt none/\am Wt w.heap.size (.slice ox on oy) l/\Seg Wt (.slice ao L.length cap) L/\InC (⟨2,0,n,n2,n3,l⟩:PCmd)/\gp L (⟨2,0,n,n2,n3,l⟩:PCmd) okb):=by
     have hg:=G4.out
     have htc:=HB1.out.2.2
     refine ⟨J8.out.1.grown hg (fun e=>by simp at e;omega),B4.out,ag J8.out.2.2.1 hg (fun x hx=>by simp at hx;omega),J9.out.2.1.set J8.out.2.1 (by decide) (by decide) hg,(J8.out.2.2.2.1.other J8.out.2.1 (by decide) (fun j x e=>by rcases j with _ | _ | _ | _ | _ | _ | j <;> simp at e) hg).seg,?_,HCd.out⟩
     have a0:=HB1.out.1
     have a1:=HB1.out.2.1
     have b0:=HB2.out.1
     have b1:=HB2.out.2
     have c0:=HB3.out.1
     have c1:=HB3.out.2
     constructor <;> first | exact a0 | exact a1 | exact b0 | exact b1 | exact c0 | exact c1 | (dsimp only;omega)
    go_wp2_with fail
    go_meet
    case rel=>exact ⟨⟨2,0,n,n2,n3,l⟩,ox,on,oy,okb,rfl,HT.out⟩
  have q1:((k:Int)==1)=false:=by simp;omega
  have q2:((k:Int)==2)=false:=by simp;omega
  have q3:(k=1)=False:=eq_false h1
  have q4:(k=2)=False:=eq_false h2
  have HKK:Hid (k=0\/k=3\/k=4):=by
   have:=HK.out
   unfold Hid
   omega
  clear h1 h2
  go_wp2_with fail
  obtain ⟨Wt,hWt⟩:∃y,W3.setCell ⟨tc,2,none⟩ (.int .i64 n)=y:=⟨_,rfl⟩
  have hg:W3.grownBy Wt (some tc):=by rw [<-hWt];exact ab _ _ _ _
  have hst:=H3.out.2.1.store 2 (.int .i64 n)
  rw [hWt] at hst ⊢
  go_meet
  case rel =>
   refine ⟨⟨(k:Int),0,n,0,0,[]⟩,none,0,0,ob,rfl,H3.out.1.grown hg (fun e=>by simp at e;have:=H3.out.2.2.2.2.1;omega),by simpa using hst,ag H3.out.2.2.1 hg (fun x hx=>by simp at hx;have:=H3.out.2.2.2.2.1;omega),⟨aD _ _,by simp⟩,(H3.out.2.2.2.1.other H3.out.2.1 (by decide) (fun j x e=>by rcases j with _ | _ | _ | _ | _ | _ | j <;> simp at e) hg).seg,?_,rh HKK.out HV.out.2.2 (fun m M a b e=>⟨(HS.out m M a b e).1,HOB.out.2 (HS.out m M a b e).2.1⟩)⟩
   have a0:=H3.out.2.2.2.2.2.2.1
   have a1:=H3.out.2.2.2.2.2.2.2
   have a2:=HK.out
   constructor <;> first | exact a0 | exact a1 | (dsimp only;omega)
 case rest =>
  obtain ⟨c,o1,o2,o3,okb,rfl,HT⟩:=hcut
  obtain ⟨Wt,hWt⟩:∃y,y=wc:=⟨_,rfl⟩
  subst hWt
  refine (‹∀(a:Act) (w:World),Code.wp Tryz.prog _ _ a w->_› _ _ ?_)
  go_upto_region 19 with fail
  have HC:Hid (∀y:World,Wt.grownBy y none->y.cell? ⟨tc,0,none⟩=some (.int .i64 c.kind)/\y.cell? ⟨tc,1,none⟩=some (.int .i64 c.token)/\y.cell? ⟨tc,2,none⟩=some (.int .i64 c.session)/\y.cell? ⟨tc,3,none⟩=some (.int .i64 c.number)/\y.cell? ⟨tc,4,none⟩=some (.int .i64 c.mark)/\y.cell? ⟨tc,5,none⟩=some (.slice o1 o2 o3)/\(convert 32 9 (.slice ao L.length cap)).run Tryz.prog y=.ok (.string ⟨L.toArray⟩) y):=by
   intro y hy
   have hb:=HT.out.2.1.grown hy (by simp)
   exact ⟨hb.cell 0,hb.cell 1,hb.cell 2,hb.cell 3,hb.cell 4,hb.cell 5,aR (HT.out.2.2.2.2.1.grown hy)⟩
  go_cut [112] (fun x wd=>∃nb:Bool,x=.bool nb/\Hid (Wt.grownBy wd none/\(nb=true->cg L=(bj,4))/\(nb=false->cg L=(c,0))))
  case first =>
   cases okb with
   | false =>
    have HN:Hid (cg L=(bj,4)):=fp HT.out.2.2.2.2.2.2 (fun h=>by cases h)
    refine wp_region_noPanic ?_
    refine aj 1000 (fun y=>Wt.grownBy y none) (by kernel_rfl) ?_
    have G0:Hid (Wt.grownBy Wt.drew none):=ac _ _
    generalize Wt.drew=wq at G0 ⊢
    have J:Idx [0,1,2]:=trivial
    iterate 3 (refine tK J (G0.out) rfl rfl (fun wk hk=>by obtain ⟨m0,m1,m2,m3,m4,m5,mL⟩:=HC.out wk hk;go_simp;try rfl) ?_;replace J:=J.tl;try simp only [pN])
    have J:Idx [3,4,5]:=trivial
    iterate 3 (refine sk J (G0.out) rfl rfl ?_;replace J:=J.tl;try simp only [pN])
    have J:Idx [6,7]:=trivial
    iterate 2 (refine tK J (G0.out) rfl rfl (fun wk hk=>by obtain ⟨m0,m1,m2,m3,m4,m5,mL⟩:=HC.out wk hk;go_simp;try rfl) ?_;replace J:=J.tl;try simp only [pN])
    have J:Idx [8,9,10,11,12,13]:=trivial
    iterate 6 (refine sk J (G0.out) rfl rfl ?_;replace J:=J.tl;try simp only [pN])
    have J:Idx [14]:=trivial
    iterate 1 (refine tK J (G0.out) rfl rfl (fun wk hk=>by obtain ⟨m0,m1,m2,m3,m4,m5,mL⟩:=HC.out wk hk;go_simp;try rfl) ?_;replace J:=J.tl;try simp only [pN])
    refine wD ?_
    simp only [NoPanic,Exit.then]
    go_wp2_with fail
    go_meet
    case rel=>exact ⟨true,rfl,G0.out,fun _=>HN.out,fun h=>(by cases h)⟩
   | true =>
    by_cases hok:okC c=true
    rotate_left
    ·skip
     have HN:Hid (cg L=(bj,4)):=fp HT.out.2.2.2.2.2.2 (fun _ h=>absurd h hok)
     refine wp_region_noPanic ?_
     refine aj 1000 (fun y=>Wt.grownBy y none) (by kernel_rfl) ?_
     have G0:Hid (Wt.grownBy Wt.drew none):=ac _ _
     generalize Wt.drew=wq at G0 ⊢
     have J:Idx [0,1,2,3]:=trivial
     iterate 4 (refine tK J (G0.out) rfl rfl (fun wk hk=>by obtain ⟨m0,m1,m2,m3,m4,m5,mL⟩:=HC.out wk hk;go_simp;try rfl) ?_;replace J:=J.tl;try simp only [pN])
     refine wO 4 rfl fun K hK=>?_
     go_wp2_with fail
     refine (jX (.slice o1 o2 o3) c wq (HT.out.2.2.2.1.grown G0.out).ops).mono ?_
     rintro e v1 ⟨rfl,gv⟩
     rw [show chkC c=2 by rw [chkC,if_neg hok]]
     have G1:Hid (Wt.grownBy v1 none):=aa G0.out gv
     clear gv
     go_wp2_with fail
     refine hK.out _ _ (fun _=>G1.out) ?_
     clear hK K
     try simp only [pN]
     have J:Idx [5,6,7]:=trivial
     iterate 3 (refine tK J (G1.out) rfl rfl (fun wk hk=>by obtain ⟨m0,m1,m2,m3,m4,m5,mL⟩:=HC.out wk hk;go_simp;try rfl) ?_;replace J:=J.tl;try simp only [pN])
     have J:Idx [8,9,10,11,12,13]:=trivial
     iterate 6 (refine sk J (G1.out) rfl rfl ?_;replace J:=J.tl;try simp only [pN])
     have J:Idx [14]:=trivial
     iterate 1 (refine tK J (G1.out) rfl rfl (fun wk hk=>by obtain ⟨m0,m1,m2,m3,m4,m5,mL⟩:=HC.out wk hk;go_simp;try rfl) ?_;replace J:=J.tl;try simp only [pN])
     refine wD ?_
     simp only [NoPanic,Exit.then]
     go_wp2_with fail
     go_meet
     case rel=>exact ⟨true,rfl,G1.out,fun _=>HN.out,fun h=>(by cases h)⟩
    have HO:Hid (okC c=true):=hok
    clear hok
    obtain ⟨F,hF⟩:∃F,aY c=F:=⟨_,rfl⟩
    have HX:Hid (aY c=F):=hF
    clear hF
    by_cases hFL:F=L
    rotate_left
    ·skip
     have HN:Hid (cg L=(bj,4)):=fp HT.out.2.2.2.2.2.2 (fun _ _=>by rw [HX.out];exact hFL)
     have q1:(F==L)=false:=by simpa using hFL
     have q2:(L==F)=false:=by simpa using fun h:L=F=>hFL h.symm
     have q3:(F=L)=False:=eq_false hFL
     have q4:(L=F)=False:=eq_false fun h=>hFL h.symm
     clear hFL
     refine wp_region_noPanic ?_
     refine aj 1000 (fun y=>Wt.grownBy y none) (by kernel_rfl) ?_
     have G0:Hid (Wt.grownBy Wt.drew none):=ac _ _
     generalize Wt.drew=wq at G0 ⊢
     have J:Idx [0,1,2,3]:=trivial
     iterate 4 (refine tK J (G0.out) rfl rfl (fun wk hk=>by obtain ⟨m0,m1,m2,m3,m4,m5,mL⟩:=HC.out wk hk;go_simp;try rfl) ?_;replace J:=J.tl;try simp only [pN])
     refine wO 4 rfl fun K hK=>?_
     go_wp2_with fail
     refine (jX (.slice o1 o2 o3) c wq (HT.out.2.2.2.1.grown G0.out).ops).mono ?_
     rintro e v1 ⟨rfl,gv⟩
     rw [show chkC c=0 by rw [chkC,if_pos HO.out]]
     have G1:Hid (Wt.grownBy v1 none):=aa G0.out gv
     clear gv
     go_wp2_with fail
     refine hK.out _ _ (fun _=>G1.out) ?_
     clear hK K
     try simp only [pN]
     have J:Idx [5,6,7,8,11,12]:=trivial
     iterate 6 (refine tK J (G1.out) rfl rfl (fun wk hk=>by obtain ⟨m0,m1,m2,m3,m4,m5,mL⟩:=HC.out wk hk;go_simp;try rfl) ?_;replace J:=J.tl;try simp only [pN])
     refine wO 9 rfl fun K hK=>?_
     go_wp2_with fail
     refine (qw (.slice o1 o2 o3) c v1 (HT.out.2.2.2.1.grown G1.out).ops HT.out.2.2.2.2.2.1 HO.out).mono ?_
     rintro e v2 ⟨r,rfl,hr,gv⟩
     rw [HX.out] at hr
     obtain ⟨qx,qn,qy,rfl⟩:=aq hr
     have G2:Hid (Wt.grownBy v2 none):=aa G1.out gv
     have R2:Hid (∀y:World,v2.grownBy y none->(convert 32 9 (.slice qx qn qy)).run Tryz.prog y=.ok (.string ⟨F.toArray⟩) y):=fun y hy=>aR (hr.seg.grown hy)
     clear gv hr
     go_wp2_with fail
     refine hK.out _ _ (fun _=>G2.out) ?_
     clear hK K
     try simp only [pN]
     refine wO 10 rfl fun K hK=>?_
     have sR:=R2.out v2 (ai _ _)
     go_wp2_with fail
     refine hK.out _ _ (fun _=>G2.out) ?_
     clear hK K
     try simp only [pN]
     have J:Idx [13,14]:=trivial
     iterate 2 (refine tK J (G2.out) rfl rfl (fun wk hk=>by obtain ⟨m0,m1,m2,m3,m4,m5,mL⟩:=HC.out wk hk;go_simp;try rfl) ?_;replace J:=J.tl;try simp only [pN])
     refine wD ?_
     simp only [NoPanic,Exit.then]
     go_wp2_with fail
     go_meet
     case rel=>exact ⟨true,rfl,G2.out,fun _=>HN.out,fun h=>(by cases h)⟩
    subst hFL
    have HN:Hid (cg F=(c,0)):=by have:=mo HO.out HT.out.2.2.2.2.2.1;rw [HX.out] at this;exact this
    refine wp_region_noPanic ?_
    refine aj 1000 (fun y=>Wt.grownBy y none) (by kernel_rfl) ?_
    have G0:Hid (Wt.grownBy Wt.drew none):=ac _ _
    generalize Wt.drew=wq at G0 ⊢
    have J:Idx [0,1,2,3]:=trivial
    iterate 4 (refine tK J (G0.out) rfl rfl (fun wk hk=>by obtain ⟨m0,m1,m2,m3,m4,m5,mL⟩:=HC.out wk hk;go_simp;try rfl) ?_;replace J:=J.tl;try simp only [pN])
    refine wO 4 rfl fun K hK=>?_
    go_wp2_with fail
    refine (jX (.slice o1 o2 o3) c wq (HT.out.2.2.2.1.grown G0.out).ops).mono ?_
    rintro e v1 ⟨rfl,gv⟩
    rw [show chkC c=0 by rw [chkC,if_pos HO.out]]
    have G1:Hid (Wt.grownBy v1 none):=aa G0.out gv
    clear gv
    go_wp2_with fail
    refine hK.out _ _ (fun _=>G1.out) ?_
    clear hK K
    try simp only [pN]
    have J:Idx [5,6,7,8,11,12]:=trivial
    iterate 6 (refine tK J (G1.out) rfl rfl (fun wk hk=>by obtain ⟨m0,m1,m2,m3,m4,m5,mL⟩:=HC.out wk hk;go_simp;try rfl) ?_;replace J:=J.tl;try simp only [pN])
    refine wO 9 rfl fun K hK=>?_
    go_wp2_with fail
    refine (qw (.slice o1 o2 o3) c v1 (HT.out.2.2.2.1.grown G1.out).ops HT.out.2.2.2.2.2.1 HO.out).mono ?_
    rintro e v2 ⟨r,rfl,hr,gv⟩
    rw [HX.out] at hr
    obtain ⟨qx,qn,qy,rfl⟩:=aq hr
    have G2:Hid (Wt.grownBy v2 none):=aa G1.out gv
    have R2:Hid (∀y:World,v2.grownBy y none->(convert 32 9 (.slice qx qn qy)).run Tryz.prog y=.ok (.string ⟨F.toArray⟩) y):=fun y hy=>aR (hr.seg.grown hy)
    clear gv hr
    go_wp2_with fail
    refine hK.out _ _ (fun _=>G2.out) ?_
    clear hK K
    try simp only [pN]
    refine wO 10 rfl fun K hK=>?_
    have sR:=R2.out v2 (ai _ _)
    go_wp2_with fail
    refine hK.out _ _ (fun _=>G2.out) ?_
    clear hK K
    try simp only [pN]
    have J:Idx [13,14]:=trivial
    iterate 2 (refine tK J (G2.out) rfl rfl (fun wk hk=>by obtain ⟨m0,m1,m2,m3,m4,m5,mL⟩:=HC.out wk hk;go_simp;try rfl) ?_;replace J:=J.tl;try simp only [pN])
    refine wD ?_
    simp only [NoPanic,Exit.then]
    go_wp2_with fail
    go_meet
    case rel=>exact ⟨false,rfl,G2.out,fun h=>(by cases h),fun _=>HN.out⟩
  case rest =>
   obtain ⟨nb,rfl,HD⟩:=hcut
   refine (‹∀(a:Act) (w:World),Code.wp Tryz.prog _ _ a w->_› _ _ ?_)
   have B2:=HT.out.1.grown HD.out.1 (by simp)
   have r0:=B2.cell 0
   have r1:=B2.cell 1
   have r2:=B2.cell 2
   have r3:=B2.cell 3
   have r4:=B2.cell 4
   have r5:=B2.cell 5
   have z0:=B2.free 0
   have z1:=B2.free 1
   have z2:=B2.free 2
   have z3:=B2.free 3
   have z4:=B2.free 4
   have z5:=B2.free 5
   simp at r0 r1 r2 r3 r4 r5
   cases nb with
   | true =>
    have HN:Hid (cg L=(bj,4)):=HD.out.2.1 rfl
    go_wp2_with fail
    obtain ⟨W6,hW6,H6⟩:=set6 B2 (.int .i64 0) (.int .i64 0) (.int .i64 0) (.int .i64 0) (.int .i64 0) (.slice none 0 0)
    rw [hW6]
    clear hW6
    have y0:=H6.out.1.cell 0
    have y1:=H6.out.1.cell 1
    have y2:=H6.out.1.cell 2
    have y3:=H6.out.1.cell 3
    have y4:=H6.out.1.cell 4
    have y5:=H6.out.1.cell 5
    have g0:=H6.out.1.free 0
    have g1:=H6.out.1.free 1
    have g2:=H6.out.1.free 2
    have g3:=H6.out.1.free 3
    have g4:=H6.out.1.free 4
    have g5:=H6.out.1.free 5
    simp at y0 y1 y2 y3 y4 y5
    exact bodyPost_ret (v:=.tuple #[.agg #[.int .i64 0,.int .i64 0,.int .i64 0,.int .i64 0,.int .i64 0,.slice none 0 0],.int .i64 4]) (by simp [results,Tryz.results20,go_sem,y0,y1,y2,y3,y4,y5]) rfl (by rw [HN.out];exact ⟨.slice none 0 0,rfl,⟨aD _ _,by simp [bj]⟩,ag (aa HT.out.2.2.1 HD.out.1) H6.out.2 (fun x hx=>by simp at hx;omega)⟩)
   | false =>
    have HN:Hid (cg L=(c,0)):=HD.out.2.2 rfl
    have B3:=HT.out.2.1.grown HD.out.1 (by simp)
    have s0:=B3.cell 0
    have s1:=B3.cell 1
    have s2:=B3.cell 2
    have s3:=B3.cell 3
    have s4:=B3.cell 4
    have s5:=B3.cell 5
    simp at s0 s1 s2 s3 s4 s5
    go_wp2_with fail
    obtain ⟨W6,hW6,H6⟩:=set6 B2 (.int .i64 c.kind) (.int .i64 c.token) (.int .i64 c.session) (.int .i64 c.number) (.int .i64 c.mark) (.slice o1 o2 o3)
    rw [hW6]
    clear hW6
    have y0:=H6.out.1.cell 0
    have y1:=H6.out.1.cell 1
    have y2:=H6.out.1.cell 2
    have y3:=H6.out.1.cell 3
    have y4:=H6.out.1.cell 4
    have y5:=H6.out.1.cell 5
    have g0:=H6.out.1.free 0
    have g1:=H6.out.1.free 1
    have g2:=H6.out.1.free 2
    have g3:=H6.out.1.free 3
    have g4:=H6.out.1.free 4
    have g5:=H6.out.1.free 5
    simp at y0 y1 y2 y3 y4 y5
    exact bodyPost_ret (v:=.tuple #[.agg #[.int .i64 c.kind,.int .i64 c.token,.int .i64 c.session,.int .i64 c.number,.int .i64 c.mark,.slice o1 o2 o3],.int .i64 0]) (by simp [results,Tryz.results20,go_sem,y0,y1,y2,y3,y4,y5]) rfl (by rw [HN.out];exact ⟨.slice o1 o2 o3,rfl,(HT.out.2.2.2.1.grown HD.out.1).set B2 (by decide) (by decide) H6.out.2,ag (aa HT.out.2.2.1 HD.out.1) H6.out.2 (fun x hx=>by simp at hx;omega)⟩)
theorem rj (ao:Option Addr)(cap:Nat)(L:Bs)(w:World)(hs:Seg w (.slice ao L.length cap) L)(h:Wire.aU L=(0,4,L)):Calls Tryz.prog 20 #[(.slice ao L.length cap)] w (d9 w (cg L)):=by
 have HV:Hid (Seg w (.slice ao L.length cap) L):=hs
 have HN:Hid (cg L=(bj,4)):=fp (c:=bj) (ok:=false) (rg (by rw [h];omega)) (fun h=>by cases h)
 clear hs
 go_enter Tryz.func20,Tryz.ntmps20
 go_wp2_with fail
 obtain ⟨W,hW,HW⟩:=al2' w #[.int .i64 0,.int .i64 0,.int .i64 0,.int .i64 0,.int .i64 0,.slice none 0 0] #[(.slice ao L.length cap),.int .i64 0] 27 83
 rw [hW]
 clear hW
 have R0:RD W (w.heap.size+1) ao cap L 0:=⟨HW.out.2.1,HV.out.grown HW.out.2.2.1,by omega⟩
 refine (Wire.fw (w.heap.size+1) ao cap 0 L W R0.rf R0.seg R0.le).mono ?_
 rintro e W1 ⟨rfl,k1,hk1,hM,hrf,hg⟩
 rw [List.drop_zero]
 rw [h]
 have H1:Hid (Blk W1 w.heap.size 27 #[.int .i64 0,.int .i64 0,.int .i64 0,.int .i64 0,.int .i64 0,.slice none 0 0]/\w.grownBy W1 none):=⟨HW.out.1.grown hg (by simp),ag HW.out.2.2.1 hg (fun x hx=>by simp at hx;omega)⟩
 clear hM hrf hg R0 HW h hk1
 have r0:=H1.out.1.cell 0
 have r1:=H1.out.1.cell 1
 have r2:=H1.out.1.cell 2
 have r3:=H1.out.1.cell 3
 have r4:=H1.out.1.cell 4
 have r5:=H1.out.1.cell 5
 have z0:=H1.out.1.free 0
 have z1:=H1.out.1.free 1
 have z2:=H1.out.1.free 2
 have z3:=H1.out.1.free 3
 have z4:=H1.out.1.free 4
 have z5:=H1.out.1.free 5
 simp at r0 r1 r2 r3 r4 r5
 go_wp2_with fail
 obtain ⟨W6,hW6,H6⟩:=set6 H1.out.1 (.int .i64 0) (.int .i64 0) (.int .i64 0) (.int .i64 0) (.int .i64 0) (.slice none 0 0)
 rw [hW6]
 clear hW6
 have y0:=H6.out.1.cell 0
 have y1:=H6.out.1.cell 1
 have y2:=H6.out.1.cell 2
 have y3:=H6.out.1.cell 3
 have y4:=H6.out.1.cell 4
 have y5:=H6.out.1.cell 5
 simp at y0 y1 y2 y3 y4 y5
 exact bodyPost_ret (v:=.tuple #[.agg #[.int .i64 0,.int .i64 0,.int .i64 0,.int .i64 0,.int .i64 0,.slice none 0 0],.int .i64 4]) (by simp [results,Tryz.results20,go_sem,y0,y1,y2,y3,y4,y5]) rfl (by rw [HN.out];exact ⟨.slice none 0 0,rfl,⟨aD _ _,by simp [bj]⟩,ag H1.out.2 H6.out.2 (fun x hx=>by simp at hx;omega)⟩)
theorem rk (ao:Option Addr)(cap:Nat)(L:Bs)(w:World)(hs:Seg w (.slice ao L.length cap) L)(n:Nat)(M:Bs)(h:Wire.aU L=(n,0,M))(hb:4<n):Calls Tryz.prog 20 #[(.slice ao L.length cap)] w (d9 w (cg L)):=by
 have HV:Hid (Seg w (.slice ao L.length cap) L):=hs
 have HN:Hid (cg L=(bj,4)):=fp (c:=bj) (ok:=false) (fun d hd _ e=>by
  have:=eS (L:=L) (k:=n) (by rw [h]) hd e
  have:=cf (cT hd)
  omega) (fun h=>by cases h)
 clear hs
 go_enter Tryz.func20,Tryz.ntmps20
 go_wp2_with fail
 obtain ⟨W,hW,HW⟩:=al2' w #[.int .i64 0,.int .i64 0,.int .i64 0,.int .i64 0,.int .i64 0,.slice none 0 0] #[(.slice ao L.length cap),.int .i64 0] 27 83
 rw [hW]
 clear hW
 have R0:RD W (w.heap.size+1) ao cap L 0:=⟨HW.out.2.1,HV.out.grown HW.out.2.2.1,by omega⟩
 refine (Wire.fw (w.heap.size+1) ao cap 0 L W R0.rf R0.seg R0.le).mono ?_
 rintro e W1 ⟨rfl,k1,hk1,hM,hrf,hg⟩
 rw [List.drop_zero]
 rw [h]
 have H1:Hid (Blk W1 w.heap.size 27 #[.int .i64 0,.int .i64 0,.int .i64 0,.int .i64 0,.int .i64 0,.slice none 0 0]/\w.grownBy W1 none):=⟨HW.out.1.grown hg (by simp),ag HW.out.2.2.1 hg (fun x hx=>by simp at hx;omega)⟩
 clear hM hrf hg R0 HW h hk1
 have g1:((4:Int)<(n:Int))=True:=eq_true (by omega)
 have g2:(4<n)=True:=eq_true hb
 clear hb
 have r0:=H1.out.1.cell 0
 have r1:=H1.out.1.cell 1
 have r2:=H1.out.1.cell 2
 have r3:=H1.out.1.cell 3
 have r4:=H1.out.1.cell 4
 have r5:=H1.out.1.cell 5
 have z0:=H1.out.1.free 0
 have z1:=H1.out.1.free 1
 have z2:=H1.out.1.free 2
 have z3:=H1.out.1.free 3
 have z4:=H1.out.1.free 4
 have z5:=H1.out.1.free 5
 simp at r0 r1 r2 r3 r4 r5
 go_wp2_with fail
 obtain ⟨W6,hW6,H6⟩:=set6 H1.out.1 (.int .i64 0) (.int .i64 0) (.int .i64 0) (.int .i64 0) (.int .i64 0) (.slice none 0 0)
 rw [hW6]
 clear hW6
 have y0:=H6.out.1.cell 0
 have y1:=H6.out.1.cell 1
 have y2:=H6.out.1.cell 2
 have y3:=H6.out.1.cell 3
 have y4:=H6.out.1.cell 4
 have y5:=H6.out.1.cell 5
 simp at y0 y1 y2 y3 y4 y5
 exact bodyPost_ret (v:=.tuple #[.agg #[.int .i64 0,.int .i64 0,.int .i64 0,.int .i64 0,.int .i64 0,.slice none 0 0],.int .i64 4]) (by simp [results,Tryz.results20,go_sem,y0,y1,y2,y3,y4,y5]) rfl (by rw [HN.out];exact ⟨.slice none 0 0,rfl,⟨aD _ _,by simp [bj]⟩,ag H1.out.2 H6.out.2 (fun x hx=>by simp at hx;omega)⟩)
theorem uq (v:Value)(L:Bs)(w:World)(hs:Seg w v L)(hz:L.length<=6000):Calls Tryz.prog 20 #[v] w (d9 w (cg L)):=by
 obtain ⟨ao,cap,rfl⟩:=hs.shape
 rcases ez L with ⟨_,h,_⟩ | ⟨n,k,_,_,h,_⟩
 ·exact rj ao cap L w hs h
 ·by_cases hb:4<n
  ·exact rk ao cap L w hs n _ h hb
  ·exact ri n (by omega) ao cap L w hs hz (by rw [h]) (by rw [h])
end Go.Proofs.YtgjcpjckaopeeaaGreatDoor
