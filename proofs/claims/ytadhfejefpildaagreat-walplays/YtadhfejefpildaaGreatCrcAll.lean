import Derived.Test.YtadhfejefpildaaGreatProg
import Derived.KernelRfl
import Derived.WalkKit
import Derived.WalkSpells
import Derived.WalkLawsBesides
import Derived.Laws.BitsAllLaws
import Derived.Deep.WholeRow
import Derived.Deep.RegionHeld3
import Derived.Deep.DrawnRows
set_option maxHeartbeats 400000
set_option maxRecDepth 100000
namespace Go.Proofs.YtadhfejefpildaaGreat.Crc
theorem gA_ {w:World}{o:Obj}:w.grownBy (w.alloc o) none:=World.grownBy_alloc _ _ none
def T (s:Nat):Nat:=if s % 2=1 then s / 2 ^^^ 2197175160 else s / 2
def Tn:Nat->Nat->Nat
 | 0,s=>s
 | n+1,s=>Tn n (T s)
theorem T_lt {s:Nat}(h:s<4294967296):T s<4294967296:=by
 unfold T
 split
 ·exact Nat.xor_lt_two_pow (n:=32) (by omega) (by omega)
 ·omega
theorem ki:∀(n:Nat) {s:Nat},s<4294967296->Tn n s<4294967296
 | 0,_,h=>h
 | n+1,_,h=>ki n (T_lt h)
theorem rF (a b:Nat):(a ^^^ b) % 2=(a % 2) ^^^ (b % 2):=by
 have h:=@Nat.xor_mod_two_pow a b 1
 simpa using h
theorem vR (a b:Nat):T (a ^^^ b)=T a ^^^ T b:=by
 unfold T
 rw [Nat.xor_div_two,rF]
 have h1:a % 2=0\/a % 2=1:=by omega
 have h2:b % 2=0\/b % 2=1:=by omega
 rcases h1 with h1 | h1 <;> rcases h2 with h2 | h2 <;> rw [h1,h2]
 ·rfl
 ·show a / 2 ^^^ b / 2 ^^^ 2197175160=a / 2 ^^^ (b / 2 ^^^ 2197175160)
  rw [Nat.xor_assoc]
 ·show a / 2 ^^^ b / 2 ^^^ 2197175160=a / 2 ^^^ 2197175160 ^^^ b / 2
  rw [Nat.xor_assoc,Nat.xor_assoc,Nat.xor_comm (b / 2)]
 ·show a / 2 ^^^ b / 2=(a / 2 ^^^ 2197175160) ^^^ (b / 2 ^^^ 2197175160)
  rw [Nat.xor_assoc,<-Nat.xor_assoc 2197175160,Nat.xor_comm 2197175160 (b / 2),Nat.xor_assoc (b / 2),Nat.xor_self,Nat.xor_zero]
theorem kS:∀(n a b:Nat),Tn n (a ^^^ b)=Tn n a ^^^ Tn n b
 | 0,_,_=>rfl
 | n+1,a,b=>by rw [Tn,Tn,Tn,vR,kS n]
theorem jl:∀(m n s:Nat),Tn (m+n) s=Tn n (Tn m s)
 | 0,n,s=>by rw [Nat.zero_add,Tn]
 | m+1,n,s=>by rw [show m+1+n=(m+n)+1 by omega,Tn,Tn,jl m n]
theorem oD (n s:Nat):Tn (n+1) s=T (Tn n s):=by rw [jl n 1];rfl
theorem fF (q:Nat):T (2*q)=q:=by unfold T;rw [if_neg (by omega)];omega
theorem tE (q:Nat):Tn 4 (16*q)=q:=by
 rw [show 16*q=2*(2*(2*(2*q))) by omega,Tn,fF,Tn,fF,Tn,fF,Tn,fF,Tn]
theorem pL (s k:Nat):2 ^ k*(s / 2 ^ k) ^^^ s % 2 ^ k=s:=by
 apply Nat.eq_of_testBit_eq
 intro i
 rw [Nat.testBit_xor,Nat.testBit_two_pow_mul,Nat.testBit_div_two_pow,Nat.testBit_mod_two_pow]
 by_cases h:k<=i
 ·have h2:¬i<k:=by omega
  simp [h,h2]
 ·have h2:i<k:=by omega
  simp [h,h2]
theorem nib (s:Nat):Tn 4 s=s / 16 ^^^ Tn 4 (s % 16):=by
 have h:=pL s 4
 have e:Tn 4 s=Tn 4 (2 ^ 4*(s / 2 ^ 4) ^^^ s % 2 ^ 4):=by rw [h]
 rw [e,kS,show (2:Nat) ^ 4=16 from rfl,tE]
def crcB (s:Nat)(c:UInt8):Nat:=Tn 8 (s ^^^ c.toNat)
def crcL (s:Nat)(L:List UInt8):Nat:=L.foldl crcB s
theorem ei (c:UInt8):c.toNat<256:=UInt8.toNat_lt c
theorem tF {s:Nat}(c:UInt8)(h:s<4294967296):crcB s c<4294967296 :=
 ki 8 (Nat.xor_lt_two_pow (n:=32) h (by have:=ei c;omega))
theorem iY {s:Nat}(L:List UInt8)(h:s<4294967296):crcL s L<4294967296:=by
 induction L generalizing s with
 | nil=>exact h
 | cons c L ih=>exact ih (tF c h)
theorem lK (s:Nat)(L M:List UInt8):crcL s (L ++ M)=crcL (crcL s L) M:=by simp [crcL]
theorem kj (s:Nat)(L:List UInt8)(c:UInt8):crcL s (L ++ [c])=crcB (crcL s L) c:=by simp [crcL]
theorem rG (s:Nat)(c:UInt8):crcB s c=((s ^^^ c.toNat) / 16 ^^^ Tn 4 ((s ^^^ c.toNat) % 16)) / 16 ^^^ Tn 4 (((s ^^^ c.toNat) / 16 ^^^ Tn 4 ((s ^^^ c.toNat) % 16)) % 16):=by
 unfold crcB
 rw [show (8:Nat)=4+4 from rfl,jl,nib (Tn 4 _),nib (s ^^^ c.toNat)]
def inv (s:Nat):Nat:=s ^^^ 4294967295
theorem nD {s:Nat}(h:s<4294967296):inv s<4294967296:=Nat.xor_lt_two_pow (n:=32) h (by omega)
theorem oE (s:Nat):inv (inv s)=s:=by unfold inv;rw [Nat.xor_assoc,Nat.xor_self,Nat.xor_zero]
def more (s:Nat)(L:List UInt8):Nat:=inv (crcL (inv s) L)
def sum (L:List UInt8):Nat:=more 0 L
theorem tG {s:Nat}(L:List UInt8)(h:s<4294967296):more s L<4294967296:=nD (iY L (nD h))
theorem iB (L:List UInt8):sum L<4294967296:=tG L (by omega)
def num:List UInt8->Nat
 | []=>0
 | c :: L=>c.toNat ^^^ 2 ^ 8*num L
theorem lL (k a b:Nat):2 ^ k*(a ^^^ b)=2 ^ k*a ^^^ 2 ^ k*b:=by
 apply Nat.eq_of_testBit_eq
 intro i
 rw [Nat.testBit_xor,Nat.testBit_two_pow_mul,Nat.testBit_two_pow_mul,Nat.testBit_two_pow_mul,Nat.testBit_xor]
 cases decide (k<=i) <;> simp
theorem jm:∀(k m:Nat),Tn k (2 ^ k*m)=m
 | 0,m=>by simp [Tn]
 | k+1,m=>by
  rw [Tn,Nat.pow_succ,Nat.mul_comm (2 ^ k) 2,Nat.mul_assoc,fF,jm k m]
theorem rH (s:Nat)(L:List UInt8):crcL s L=Tn (8*L.length) (s ^^^ num L):=by
 induction L generalizing s with
 | nil=>simp [crcL,num,Tn]
 | cons c L ih =>
  show crcL (crcB s c) L=_
  rw [ih,List.length_cons,Nat.mul_add,Nat.add_comm (8*L.length),jl,num,<-Nat.xor_assoc,kS (8*1)]
  congr 2
  exact (jm 8 (num L)).symm
theorem oF:∀(L M:List UInt8),L.length=M.length->num L=num M->L=M
 | [],[],_,_=>rfl
 | c :: L,d :: M,hl,h=>by
  simp only [num] at h
  have h1:(c.toNat ^^^ 2 ^ 8*num L) % 2 ^ 8=(d.toNat ^^^ 2 ^ 8*num M) % 2 ^ 8:=by rw [h]
  have h2:(c.toNat ^^^ 2 ^ 8*num L) / 2 ^ 8=(d.toNat ^^^ 2 ^ 8*num M) / 2 ^ 8:=by rw [h]
  rw [Nat.xor_mod_two_pow,Nat.xor_mod_two_pow,Nat.mul_mod_right,Nat.mul_mod_right,Nat.xor_zero,Nat.xor_zero,Nat.mod_eq_of_lt (ei c),Nat.mod_eq_of_lt (ei d)] at h1
  rw [Nat.xor_div_two_pow,Nat.xor_div_two_pow,Nat.mul_div_cancel_left _ (by decide),Nat.mul_div_cancel_left _ (by decide),Nat.div_eq_of_lt (ei c),Nat.div_eq_of_lt (ei d),Nat.zero_xor,Nat.zero_xor] at h2
  have hc:c=d:=UInt8.toNat_inj.1 h1
  rw [hc,oF L M (by simpa using hl) h2]
 | [],_ :: _,h,_=>by simp at h
 | _ :: _,[],h,_=>by simp at h
theorem oG:∀(L:List UInt8) (j:Nat) (c:UInt8) (x:Nat) (hj:j<L.length),c.toNat=L[j].toNat ^^^ x->num (L.set j c)=num L ^^^ 2 ^ (8*j)*x
 | d :: L,0,c,x,_,h=>by
  simp only [List.getElem_cons_zero] at h
  simp only [List.set_cons_zero,num,h]
  rw [Nat.mul_zero,Nat.pow_zero,Nat.one_mul,Nat.xor_assoc,Nat.xor_comm x,<-Nat.xor_assoc]
 | d :: L,j+1,c,x,hj,h=>by
  simp only [List.getElem_cons_succ] at h
  simp only [List.set_cons_succ,num]
  rw [oG L j c x (by simpa using hj) h,lL,<-Nat.mul_assoc,<-Nat.pow_add,Nat.mul_add,Nat.add_comm 8,<-Nat.xor_assoc]
theorem u_ {s:Nat}(h:s<4294967296)(hz:T s=0):s=0:=by
 unfold T at hz
 split at hz
 ·exfalso
  have e:s / 2=2197175160:=by
   have h1:(s / 2 ^^^ 2197175160) ^^^ 2197175160=0 ^^^ 2197175160:=by rw [hz]
   rw [Nat.xor_assoc,Nat.xor_self,Nat.xor_zero,Nat.zero_xor] at h1
   exact h1
  omega
 ·omega
theorem jn:∀(n:Nat) {s:Nat},s<4294967296->Tn n s=0->s=0
 | 0,_,_,h=>h
 | n+1,_,h,hz=>u_ h (jn n (T_lt h) hz)
theorem oH (L:List UInt8):sum L=inv (Tn (8*L.length) (inv 0 ^^^ num L)):=by unfold sum more;rw [rH]
theorem vb {L M:List UInt8}{F:Nat}(hl:L.length=M.length)(hF:num M=num L ^^^ F)(h:sum M=sum L):Tn (8*L.length) F=0:=by
 rw [oH,oH,<-hl,hF] at h
 have h1:=congrArg inv h
 rw [oE,oE,<-Nat.xor_assoc,kS] at h1
 have h2:Tn (8*L.length) (inv 0 ^^^ num L) ^^^ (Tn (8*L.length) (inv 0 ^^^ num L) ^^^ Tn (8*L.length) F)=Tn (8*L.length) (inv 0 ^^^ num L) ^^^ Tn (8*L.length) (inv 0 ^^^ num L):=by rw [h1]
 rw [<-Nat.xor_assoc,Nat.xor_self,Nat.zero_xor] at h2
 exact h2
theorem lM {L M:List UInt8}{k m:Nat}(hl:L.length=M.length)(hF:num M=num L ^^^ 2 ^ k*m)(hk:k<=8*L.length)(hm:m<4294967296)(h:sum M=sum L):M=L:=by
 have h1:=vb hl hF h
 rw [show 8*L.length=k+(8*L.length-k) by omega,jl,jm] at h1
 have h2:=jn _ hm h1
 subst h2
 rw [Nat.mul_zero,Nat.xor_zero] at hF
 exact oF M L hl.symm hF
end Go.Proofs.YtadhfejefpildaaGreat.Crc
namespace Go.Proofs.YtadhfejefpildaaGreat.Crc
open Go.RowKit
def BV (L:List UInt8):List Value:=L.map fun u=>Value.int .u8 (u.toNat:Int)
theorem eD (L:List UInt8):(BV L).length=L.length:=by simp [BV]
theorem dr (L M:List UInt8):BV (L ++ M)=BV L ++ BV M:=by simp [BV]
theorem eF (L:List UInt8):∀u ∈ BV L,u.oneCell'=true:=by
 intro u hu;simp [BV] at hu;obtain ⟨x,_,rfl⟩:=hu;rfl
def Seg (w:World)(v:Value)(L:List UInt8):Prop :=
 ∃ao cap,v=.slice ao L.length cap/\L.length<=cap/\cap<=maxLen/\(ao=none->cap=0)/\∀j (hj:j<L.length),∃b off,ao=some ⟨b,off,none⟩/\w.cell? ⟨b,off+j,none⟩=some (.int .u8 (L[j].toNat:Int))
def Own (w:World)(B:Nat)(v:Value)(L:List UInt8):Prop:=w.ownsRow B 5 1 v L.length (BV L)
def RdB (w:World)(b:Nat)(o:Bool)(s:Value):Prop:=w.heap[b]? = some (.cells #[.bool o,s] 73 (0,0))
theorem aj (w:World)(r:Option Nat):w.grownBy w r:=⟨rfl,rfl,rfl,Nat.le_refl _,fun _ _ _=>rfl⟩
theorem bh {w w':World}(h:w.grownBy w' none)(r:Option Nat):w.grownBy w' r:=⟨h.os,h.tape,h.output,h.size,fun k hk _=>h.block k hk (by simp)⟩
theorem aa {a b c:World}{r:Option Nat}(h:a.grownBy b r)(k:b.grownBy c r):a.grownBy c r :=
 ⟨k.os.trans h.os,k.tape.trans h.tape,k.output.trans h.output,Nat.le_trans h.size k.size,fun i hi hr=>(k.block i (Nat.lt_of_lt_of_le hi h.size) hr).trans (h.block i hi hr)⟩
theorem ah {a b c:World}{r q:Option Nat}(h:a.grownBy b r)(k:b.grownBy c q)(hq:∀x,q=some x->a.heap.size<=x):a.grownBy c r :=
 ⟨k.os.trans h.os,k.tape.trans h.tape,k.output.trans h.output,Nat.le_trans h.size k.size,fun i hi hr=>(k.block i (Nat.lt_of_lt_of_le hi h.size) (fun e=>by have:=hq i e.symm;omega)).trans (h.block i hi hr)⟩
theorem af (w:World)(r:Option Nat):w.grownBy w.drew r:=⟨rfl,rfl,rfl,Nat.le_refl _,fun _ _ _=>rfl⟩
theorem ae (w:World)(b o:Nat)(v:Value):w.grownBy (w.setCell ⟨b,o,none⟩ v) (some b) :=
 ⟨rfl,rfl,rfl,by simp [World.setCell],fun k _ hk=>heap_setCell_other w ⟨b,o,none⟩ k v (fun e=>hk (by simp [e]))⟩
theorem em {w w':World}(h:w.grownBy w' none):Below w.heap.size w w':=⟨h.os,h.tape,h.output,h.size,fun k hk=>h.block k hk (by simp)⟩
theorem RdB.lt {w:World}{b:Nat}{o:Bool}{s:Value}(h:RdB w b o s):b<w.heap.size:=(Array.getElem?_eq_some_iff.1 h).1
theorem RdB.cell0 {w:World}{b:Nat}{o:Bool}{s:Value}(h:RdB w b o s):w.cell? ⟨b,0,none⟩=some (.bool o):=by
 rw [cell_of_row w b 0 _ _ _ h];rfl
theorem RdB.cell1 {w:World}{b:Nat}{o:Bool}{s:Value}(h:RdB w b o s):w.cell? ⟨b,1,none⟩=some s:=by
 rw [cell_of_row w b 1 _ _ _ h];rfl
theorem RdB.free {w:World}{b:Nat}{o:Bool}{s:Value}(h:RdB w b o s)(j:Nat):w.frozen? ⟨b,j,none⟩=false:=frozen_of_row w b j _ _ h
theorem RdB.store {w:World}{b:Nat}{o:Bool}{s:Value}(h:RdB w b o s)(t:Value):RdB (w.setCell ⟨b,1,none⟩ t) b o t:=heap_setCell_same w b 1 _ _ t h
theorem RdB.kept {w w':World}{b:Nat}{o:Bool}{s:Value}{r:Option Nat}(h:RdB w b o s)(hg:w.grownBy w' r)(hr:r≠some b):RdB w' b o s :=
 (hg.block b h.lt (fun e=>hr e.symm)).trans h
theorem Seg.len {w:World}{v:Value}{L:List UInt8}(h:Seg w v L):L.length<=9223372036854775807:=by
 obtain ⟨ao,cap,_,h1,h2,_⟩:=h
 unfold maxLen at h2;omega
theorem cG (w:World):Seg w (.slice none 0 0) []:=⟨none,0,rfl,Nat.le_refl _,Nat.zero_le _,fun _=>rfl,fun j hj=>absurd hj (by simp)⟩
theorem Seg.of_cells {w w':World}{v:Value}{L:List UInt8}(h:Seg w v L)(hc:∀b j (x:Int),w.cell? ⟨b,j,none⟩=some (.int .u8 x)->w'.cell? ⟨b,j,none⟩=some (.int .u8 x)):Seg w' v L:=by
 obtain ⟨ao,cap,hv,h1,h2,h3,h4⟩:=h
 refine ⟨ao,cap,hv,h1,h2,h3,fun j hj=>?_⟩
 obtain ⟨b,off,e,hcell⟩:=h4 j hj
 exact ⟨b,off,e,hc _ _ _ hcell⟩
theorem Seg.grown {w w':World}{v:Value}{L:List UInt8}(h:Seg w v L)(hg:w.grownBy w' none):Seg w' v L :=
 h.of_cells fun _ _ _ hc=>hg.cell hc (by simp)
theorem Seg.grownR {w w':World}{v:Value}{L:List UInt8}{b:Nat}{o:Bool}{ao:Option Addr}{n c:Nat}(h:Seg w v L)(hr:RdB w b o (.slice ao n c))(hg:w.grownBy w' (some b)):Seg w' v L:=by
 refine h.of_cells fun k j x hc=>hg.cell hc ?_
 intro e
 simp at e;subst e
 rw [cell_of_row w _ _ _ _ _ hr] at hc
 match j,hc with
 | 0,hc=>simp at hc
 | 1,hc=>simp at hc
 | j+2,hc=>simp at hc
theorem Own.seg {w:World}{B:Nat}{v:Value}{L:List UInt8}(h:Own w B v L):Seg w v L:=by
 rcases h.2 with ⟨rfl,hn⟩ | ⟨g,cap,cur,rfl,hb,hg,hnc,hcm,hcs,ht⟩
 ·have:L=[]:=List.eq_nil_of_length_eq_zero hn
  subst this
  exact cG w
 ·refine ⟨_,cap,rfl,hnc,hcm,by simp,fun j hj=>⟨g,0,rfl,?_⟩⟩
  have:=h.cellAt j (by omega)
  rw [Nat.zero_add,this]
  simp [BV,hj]
theorem Own.nil (w:World)(B:Nat):Own w B (.slice none 0 0) []:=World.ownsRow_nil w B 5 1
theorem Own.mono {w:World}{B B':Nat}{v:Value}{L:List UInt8}(h:Own w B v L)(hB:B'<=B):Own w B' v L:=by
 refine ⟨h.1,?_⟩
 rcases h.2 with h2 | ⟨g,cap,cur,h1,hb,h3⟩
 ·exact .inl h2
 ·exact .inr ⟨g,cap,cur,h1,by omega,h3⟩
theorem Own.grown {w w':World}{B:Nat}{v:Value}{L:List UInt8}(h:Own w B v L)(hg:w.grownBy w' none):Own w' B v L:=h.kept hg (by cases v.ownBlock <;> simp)
theorem Own.grownR {w w':World}{B:Nat}{v:Value}{L:List UInt8}{b:Nat}{o:Bool}{s:Value}(h:Own w B v L)(hr:RdB w b o s)(hg:w.grownBy w' (some b)):Own w' B v L:=by
 refine h.kept hg ?_
 rcases h.2 with ⟨rfl,_⟩ | ⟨g,cap,cur,rfl,hb,hgg,_⟩
 ·exact .inl rfl
 ·right
  intro e
  simp [Value.ownBlock] at e;subst e
  rw [hr] at hgg;simp at hgg
theorem lN {y:Nat}(hy:y<4294967296):bits .xor .u32 ((y:Int) / 2) 2197175160=((y / 2 ^^^ 2197175160:Nat):Int):=by
 rw [show (y:Int) / 2=((y / 2:Nat):Int) by omega]
 exact u32_xor_nat _ 2197175160 (by omega) (by omega)
theorem vd (s:Nat)(hs:s<4294967296)(w:World):Calls Tryz.prog 124 #[.int .u32 s] w fun e w'=>e=.returned (.int .u32 (Tn 8 s))/\w'=w:=by
 go_enter Tryz.func124,Tryz.ntmps124
 go_wp2
 go_loopw [0,3] (fun x i w2=>∃k:Nat,k<=8/\x=.int .u32 (Tn k s)/\i=.int .i64 k/\w2=w) (fun _ i _=>8-(intOf i).toNat)
 case atStart=>exact ⟨0,by omega,rfl,rfl,rfl⟩
 case round =>
  obtain ⟨k,hk,rfl,rfl,rfl⟩:=hrel
  by_cases hlt:k<8
  ·have hb:=ki k hs
   have e1:=oD k s
   obtain ⟨y,hy⟩:∃y,Tn k s=y:=⟨_,rfl⟩
   rw [hy] at hb e1 ⊢
   have HE:Hid _:=e1
   have HY:Hid _:=hy
   clear hy e1
   by_cases ho:y % 2=1
   ·have g1:((y:Int) % 2==1)=true:=by simp;omega
    have HX:Hid _:=lN hb
    have e2:Hid (T y=y / 2 ^^^ 2197175160):=by unfold Hid T;rw [if_pos ho]
    go_wp2_with fail
    go_roundw
    case rel=>exact ⟨k+1,by omega,by rw [HE.out,e2.out,HX.out],by go_num,trivial⟩
    case measure=>simp [intOf];omega
   ·have g1:((y:Int) % 2==1)=false:=by simp;omega
    have e2:Hid (T y=y / 2):=by unfold Hid T;rw [if_neg ho]
    go_wp2_with fail
    go_roundw
    case rel=>exact ⟨k+1,by omega,by rw [HE.out,e2.out];go_num,by go_num,trivial⟩
    case measure=>simp [intOf];omega
  ·have e:k=8:=by omega
   subst e
   go_wp2_with fail
   go_ret
   exact ⟨rfl,rfl⟩
theorem bG {P:Program}(w:World){ops:Array Oper}{rest:List Oper}{o:Oper}{a:Act}{Q:Exit->Act->World->Prop}
  (hgd:o.guard=none) (p:Operand) (t:TypeId) (ho:o.op=.load t p) (g n:Nat) (e:TypeId) (c:Array Value) (hu:P.underlying t=some (.array n e)) (hi:(P.info? t).map (·.size)=some c.size)
  (hp:a.eval p=.pointer (some ⟨g,0,none⟩)) (hg:w.heap[g]? = some (.cells c t (0,0)))
  (h:wpList P ops Q rest (a.put o.dst (.agg c)) w):wpList P ops Q (o :: rest) a w:=by
 refine wpList_plain hgd fun K hK'=>?_
 have hrun:(Instr.loadAt t (.pointer (some ⟨g,0,none⟩))).run P w=.ok (.agg c) w:=by
  simp only [Instr.loadAt,Instr.sureAddr,Sem.run_bind,Sem.run_pure,Result.andThen]
  exact run_loadVar_row w g t t c (0,0) _ hg hu rfl hi
 unfold Oper.wp
 simp [execOp,ho,hp,hrun,Result.andThen]
 exact hK' _ _ h
theorem bj {P:Program}(w:World){ops:Array Oper}{rest:List Oper}{o:Oper}{a:Act}{Q:Exit->Act->World->Prop}
  (hgd:o.guard=none) (hds:o.dst=none) (p x:Operand) (t:TypeId) (ho:o.op=.store t p x) (g:Nat) (c old:Array Value) (hi:(P.info? t).map (·.size)=some c.size) (hs:old.size=c.size) (h1:c.all (·.oneCell')=true)
  (hp:a.eval p=.pointer (some ⟨g,0,none⟩)) (hx:a.eval x=.agg c) (hg:w.heap[g]? = some (.cells old t (0,0)))
  (h:wpList P ops Q rest a (w.setRow g c)):wpList P ops Q (o :: rest) a w:=by
 refine wpList_plain hgd fun K hK'=>?_
 have hrun:(Instr.storeAt t (.pointer (some ⟨g,0,none⟩)) (.agg c)).run P w=.ok () (w.setRow g c):=by
  simp only [Instr.storeAt,Instr.sureAddr,Sem.run_bind,Sem.run_pure,Result.andThen]
  exact run_storeVar_row w g t t old c hg hi hs h1
 unfold Oper.wp
 simp [execOp,ho,hp,hx,hrun,Result.andThen]
 refine hK' _ _ ?_
 rw [hds]
 exact h
theorem gT (w:World)(g:Nat)(c:Array Value):w.grownBy (w.setRow g c) (some g):=by
 refine ⟨rfl,rfl,rfl,by simp,fun k _ hk=>?_⟩
 simp only [World.setRow,Array.getElem?_modify]
 rw [if_neg (fun e=>hk (by rw [e]))]
def fG (n i:Nat)(f:Nat->Nat)(c:Array Value):Prop:=c.size=n/\(∀j,j<n->∃x:Nat,c[j]? = some (.int .u32 x))/\∀j,j<i->c[j]? = some (.int .u32 (f j))
theorem fG.set {n i:Nat}{f:Nat->Nat}{c:Array Value}(h:fG n i f c)(x:Nat)(hx:x=f i)(hi:i<n):fG n (i+1) f (c.setIfInBounds i (.int .u32 x)):=by
 obtain ⟨h1,h2,h3⟩:=h
 refine ⟨by simpa using h1,fun j hj=>?_,fun j hj=>?_⟩
 ·by_cases e:i=j
  ·subst e
   exact ⟨x,by rw [Array.getElem?_setIfInBounds_self_of_lt (by omega)]⟩
  ·obtain ⟨y,hy⟩:=h2 j hj
   exact ⟨y,by rw [Array.getElem?_setIfInBounds_ne e];exact hy⟩
 ·by_cases e:i=j
  ·subst e
   rw [Array.getElem?_setIfInBounds_self_of_lt (by omega),hx]
  ·rw [Array.getElem?_setIfInBounds_ne e];exact h3 j (by omega)
def rowV (n:Nat)(f:Nat->Nat):Array Value:=((List.range n).map fun j=>Value.int .u32 (f j:Nat)).toArray
theorem lO (n:Nat)(f:Nat->Nat)(j:Nat)(h:j<n):(rowV n f)[j]? = some (.int .u32 (f j)):=by
 unfold rowV;simp [h]
theorem dS (n:Nat)(f:Nat->Nat):(rowV n f).size=n:=by unfold rowV;simp
theorem fG.all {n:Nat}{f:Nat->Nat}{c:Array Value}(h:fG n n f c):c=rowV n f:=by
 apply Array.ext_getElem?
 intro j
 by_cases hj:j<n
 ·rw [h.2.2 j hj,lO n f j hj]
 ·rw [Array.getElem?_eq_none (by have:=h.1;omega),Array.getElem?_eq_none (by rw [dS];omega)]
theorem lP (n:Nat)(f:Nat->Nat):fG n 0 f (Array.replicate n (.int .u32 0)):=by
 refine ⟨by simp,fun j hj=>⟨0,by simp [hj]⟩,fun j hj=>absurd hj (by omega)⟩
theorem lQ (n:Nat)(f:Nat->Nat):(rowV n f).all (·.oneCell')=true:=by
 unfold rowV;simp [Value.oneCell']
theorem Tryz.size210:(Tryz.prog.info? 210).map (·.size)=some 16:=by kernel_rfl
def tabV:Array Value:=rowV 16 (Tn 4)
theorem tH {y:Nat}(hy:y<4294967296):bits .and .u32 (y:Int) 1=((y % 2:Nat):Int):=by
 have h:=u32_and_nat y 1 hy (by omega)
 rw [Nat.and_one_is_mod] at h
 exact h
theorem pM {y:Nat}(hy:y<4294967296):bits .xor .u32 ((y:Int) / 2) 0=((y / 2:Nat):Int):=by
 rw [show (y:Int) / 2=((y / 2:Nat):Int) by omega]
 have h:=u32_xor_nat (y / 2) 0 (by omega) (by omega)
 rw [Nat.xor_zero] at h
 exact h
theorem tI {y:Nat}(h:y % 2=1):IntKind.u32.wrap (-((y % 2:Nat):Int))=4294967295:=by rw [h];rfl
theorem rI {y:Nat}(h:y % 2=0):IntKind.u32.wrap (-((y % 2:Nat):Int))=0:=by rw [h];rfl
theorem pO (w:World):Calls Tryz.prog 141 #[] w fun e w'=>e=.returned (.agg tabV)/\w.grownBy w' none:=by
 go_enter Tryz.func141,Tryz.ntmps141
 go_wp2
 go_loopw [5] (fun i wr=>∃(k:Nat) (z c:Array Value),k<=16/\i=.int .i64 k/\z.size=16/\fG 16 k (Tn 4) c/\wr=(w.alloc (.cells z 210)).alloc (.cells c 210)) (fun i _=>16-(intOf i).toNat)
 case atStart=>exact ⟨0,_,_,by omega,rfl,rfl,lP 16 _,rfl⟩
 case round =>
  obtain ⟨k,z,c,hk,rfl,hz,hc,rfl⟩:=hrel
  by_cases hlt:k<16
  ·have HC:Hid _:=hc
   clear hc
   have hk32:IntKind.u32.wrap (k:Int)=(k:Int):=by rw [IntKind.wrap_u32'];omega
   go_wp2_with fail
   go_loopw [3,10] (fun x i wr=>∃m:Nat,m<=4/\x=.int .u32 (Tn m k)/\i=.int .i64 m/\wr=(w.alloc (.cells z 210)).alloc (.cells c 210)) (fun _ i _=>4-(intOf i).toNat)
   case atStart=>exact ⟨0,by omega,rfl,rfl,rfl⟩
   case round =>
    obtain ⟨m,hm,rfl,rfl,rfl⟩:=hrel
    by_cases hlt4:m<4
    ·have hb:=ki m (s:=k) (by omega)
     have e1:=oD m k
     obtain ⟨y,hy⟩:∃y,Tn m k=y:=⟨_,rfl⟩
     rw [hy] at hb e1 ⊢
     have HE:Hid _:=e1
     clear hy e1
     have a1:=tH hb
     by_cases ho:y % 2=1
     ·have a2:=tI ho
      have a3:bits .and .u32 2197175160 4294967295=2197175160:=by decide
      have HX:Hid _:=lN hb
      have e2:Hid (T y=y / 2 ^^^ 2197175160):=by unfold Hid T;rw [if_pos ho]
      go_wp2_with fail
      go_roundw
      case rel=>exact ⟨m+1,by omega,by rw [HE.out,e2.out,HX.out],by go_num,trivial⟩
      case measure=>simp [intOf];omega
     ·have a2:=rI (y:=y) (by omega)
      have a3:bits .and .u32 2197175160 0=0:=by decide
      have a5:(y:Int) % 2=0:=by omega
      have HX:Hid (bits .xor .u32 ((y:Int) / 2) 0=((y / 2:Nat):Int)):=pM hb
      have e2:Hid (T y=y / 2):=by unfold Hid T;rw [if_neg ho]
      go_wp2_with fail
      go_roundw
      case rel=>exact ⟨m+1,by omega,by rw [HE.out,e2.out,HX.out],by go_num,trivial⟩
      case measure=>simp [intOf];omega
    ·have e:m=4:=by omega
     subst e
     have i1:(0:Int)<=(k:Int):=by omega
     have i2:(k:Int)<16:=by omega
     obtain ⟨x0,hx0⟩:=HC.out.2.1 k hlt
     have hsz:=HC.out.1
     have hkc:k<c.size:=by omega
     go_wp2_with fail
     go_roundw
     case rel=>exact ⟨k+1,z,_,by omega,by go_num,hz,fG.set HC.out (Tn 4 k) rfl hlt,rfl⟩
     case measure=>simp [intOf];omega
  ·have e:k=16:=by omega
   subst e
   have e2:=hc.all
   subst e2
   clear hc
   have h38:Hid (((w.alloc (.cells z 210)).alloc (.cells (rowV 16 (Tn 4)) 210)).heap[w.heap.size+1]? = some (.cells (rowV 16 (Tn 4)) 210 (0,0))):=by
    exact heap_alloc2_new w _ _
   have hz38:Hid (((w.alloc (.cells z 210)).alloc (.cells (rowV 16 (Tn 4)) 210)).heap[w.heap.size]? = some (.cells z 210 (0,0))):=heap_alloc2_old w _ _
   have hgr:Hid (w.grownBy ((w.alloc (.cells z 210)).alloc (.cells (rowV 16 (Tn 4)) 210)) none):=aa (World.grownBy_alloc _ _ _) (World.grownBy_alloc _ _ _)
   obtain ⟨W,hW⟩:∃W,(w.alloc (.cells z 210)).alloc (.cells (rowV 16 (Tn 4)) 210)=W:=⟨_,rfl⟩
   rw [hW] at h38 hz38 hgr ⊢
   clear hW
   go_wp2_with (first | (refine bG _ rfl (.tmp 1) 210 rfl (w.heap.size+1) 16 137 (rowV 16 (Tn 4)) Tryz.underlying210 (by rw [dS];exact Tryz.size210) rfl h38.out ?_) | (refine bj _ rfl rfl (.tmp 0) (.tmp 26) 210 rfl w.heap.size (rowV 16 (Tn 4)) z (by rw [dS];exact Tryz.size210) (by rw [dS];exact hz) (lQ _ _) rfl rfl hz38.out ?_))
   refine bodyPost_ret (results_cell_row rfl _ _ w.heap.size 210 (rowV 16 (Tn 4)) (0,0) _ rfl (setRow_heap _ _ z _ _ _ hz38.out) Tryz.underlying210 rfl (by rw [dS];exact Tryz.size210)) rfl ⟨rfl,?_⟩
   exact ah hgr.out (gT _ _ _) (by intro x hx;simp at hx;omega)
theorem rJ {y:Nat}(hy:y<4294967296):bits .and .u32 (y:Int) 15=((y % 16:Nat):Int):=by
 have h:=u32_and_nat y 15 hy (by omega)
 have e:y &&& 15=y % 16:=Nat.and_two_pow_sub_one_eq_mod y 4
 rw [e] at h
 exact h
theorem kl {y x:Nat}(hy:y<4294967296)(hx:x<4294967296):bits .xor .u32 ((y:Int) / 16) (x:Int)=((y / 16 ^^^ x:Nat):Int):=by
 rw [show (y:Int) / 16=((y / 16:Nat):Int) by omega]
 exact u32_xor_nat _ _ (by omega) hx
theorem aH {w:World}{v:Value}{L:List UInt8}(h:Seg w v L)(o:Obj):Seg (w.alloc o) v L:=h.grown (World.grownBy_alloc _ _ _)
theorem Seg.shape {w:World}{v:Value}{L:List UInt8}(h:Seg w v L):∃ao cap,v=.slice ao L.length cap:=by obtain ⟨ao,cap,h,_⟩:=h;exact ⟨ao,cap,h⟩
theorem rK (s:Nat)(v:Value)(L:List UInt8)(w:World)(hs:s<4294967296)(hL:Seg w v L) :
  Calls Tryz.prog 142 #[.agg tabV,.int .u32 s,v] w fun e w'=>e=.returned (.int .u32 (crcL s L))/\w.grownBy w' none:=by
 obtain ⟨ao,cap,rfl⟩:=hL.shape
 have hlen:=hL.len
 have HL:Hid (Seg (w.alloc (.cells tabV 210)) (.slice ao L.length cap) L):=aH hL _
 have HC:Hid (∀j,j<16->(w.alloc (.cells tabV 210)).cell? ⟨w.heap.size,j,none⟩=some (.int .u32 (Tn 4 j))):=by
  intro j hj
  rw [cell_of_row _ _ j _ _ _ (heap_alloc_new w (.cells tabV 210))]
  exact lO 16 _ j hj
 have HG:Hid (w.grownBy (w.alloc (.cells tabV 210)) none):=World.grownBy_alloc _ _ _
 clear hL
 go_enter Tryz.func142,Tryz.ntmps142
 go_wp2_with fail
 obtain ⟨W,hW⟩:∃W,w.alloc (.cells tabV 210)=W:=⟨_,rfl⟩
 rw [hW] at HL HC HG ⊢
 clear hW
 go_loopw [1,12] (fun x i wr=>∃k:Nat,k<=L.length/\x=.int .u32 (crcL s (L.take k))/\i=.int .i64 k/\wr=W) (fun _ i _=>L.length-(intOf i).toNat)
 case atStart=>exact ⟨0,by omega,by simp [crcL],rfl,rfl⟩
 case round =>
  obtain ⟨k,hk,rfl,rfl,rfl⟩:=hrel
  by_cases hlt:k<L.length
  ·have ha:=iY (L.take k) hs
   have e1:crcL s (L.take (k+1))=crcB (crcL s (L.take k)) L[k]:=by
    rw [List.take_succ_eq_append_getElem hlt,kj]
   obtain ⟨a,hea⟩:∃a,crcL s (L.take k)=a:=⟨_,rfl⟩
   obtain ⟨_,_,hv,_,_,_,h4⟩:=HL.out
   simp at hv
   obtain ⟨rfl,rfl⟩:=hv
   obtain ⟨bb,off,rfl,hcell⟩:=h4 k hlt
   obtain ⟨c,hc⟩:∃c:UInt8,L[k]=c:=⟨_,rfl⟩
   rw [hc] at hcell e1
   have hx:=ei c
   rw [hea] at ha e1 ⊢
   rw [rG] at e1
   obtain ⟨x,hex⟩:∃x:Nat,c.toNat=x:=⟨_,rfl⟩
   rw [hex] at hcell e1 hx
   have f1:bits .xor .u32 (a:Int) (x:Int)=((a ^^^ x:Nat):Int):=u32_xor_nat a x ha (by omega)
   have hy1:a ^^^ x<4294967296:=Nat.xor_lt_two_pow (n:=32) ha (by omega)
   obtain ⟨y1,hey1⟩:∃y,a ^^^ x=y:=⟨_,rfl⟩
   rw [hey1] at f1 hy1 e1
   have f2:=rJ hy1
   obtain ⟨l1,hl1⟩:∃l,y1 % 16=l:=⟨_,rfl⟩
   have hl1b:l1<16:=by omega
   have d1:=HC.out l1 hl1b
   rw [hl1] at f2 e1
   have ht1:=ki 4 (s:=l1) (by omega)
   obtain ⟨t1,het1⟩:∃t,Tn 4 l1=t:=⟨_,rfl⟩
   rw [het1] at d1 e1 ht1
   have f3:=kl hy1 ht1
   have hy2:y1 / 16 ^^^ t1<4294967296:=Nat.xor_lt_two_pow (n:=32) (by omega) ht1
   obtain ⟨y2,hey2⟩:∃y,y1 / 16 ^^^ t1=y:=⟨_,rfl⟩
   rw [hey2] at f3 hy2 e1
   have f4:=rJ hy2
   obtain ⟨l2,hl2⟩:∃l,y2 % 16=l:=⟨_,rfl⟩
   have hl2b:l2<16:=by omega
   have d2:=HC.out l2 hl2b
   rw [hl2] at f4 e1
   have ht2:=ki 4 (s:=l2) (by omega)
   obtain ⟨t2,het2⟩:∃t,Tn 4 l2=t:=⟨_,rfl⟩
   rw [het2] at d2 e1 ht2
   have f5:=kl hy2 ht2
   rw [<-e1] at f5
   have i1:(0:Int)<=(k:Int):=by omega
   have i2:(k:Int)<(L.length:Int):=by omega
   have wx:IntKind.u32.wrap (x:Int)=(x:Int):=by rw [IntKind.wrap_u32'];omega
   clear e1 hea h4 hc hex hey1 hl1 het1 hey2 hl2 het2
   go_wp2_with fail
   go_roundw
   case rel=>exact ⟨k+1,by omega,rfl,by go_num,trivial⟩
   case measure=>simp [intOf];omega
  ·have e:k=L.length:=by omega
   subst e
   rw [List.take_length]
   go_wp2_with fail
   go_ret
   exact ⟨rfl,HG.out⟩
def Blk (w:World)(g t:Nat)(c:Array Value):Prop:=w.heap[g]? = some (.cells c t (0,0))
theorem Blk.kept {w w':World}{g t:Nat}{c:Array Value}{r:Option Nat}(h:Blk w g t c)(hg:w.grownBy w' r)(hr:r≠some g):Blk w' g t c:=by
 unfold Blk at *
 rw [hg.block g (Array.getElem?_eq_some_iff.1 h).1 (Ne.symm hr),h]
theorem Blk.cell {w:World}{g t:Nat}{c:Array Value}(h:Blk w g t c)(j:Nat):w.cell? ⟨g,j,none⟩=c[j]?:=cell_of_row w g j _ _ _ h
theorem Blk.free {w:World}{g t:Nat}{c:Array Value}(h:Blk w g t c)(j:Nat):w.frozen? ⟨g,j,none⟩=false:=frozen_of_row w g j _ _ h
theorem Blk.store {w:World}{g t:Nat}{c:Array Value}(h:Blk w g t c)(j:Nat)(v:Value):Blk (w.setCell ⟨g,j,none⟩ v) g t (c.setIfInBounds j v):=heap_setCell_same w g j _ _ v h
theorem Blk.row {w:World}{g t:Nat}{c:Array Value}(h:Blk w g t c)(c':Array Value):Blk (w.setRow g c') g t c':=setRow_heap _ _ c _ _ _ h
section
variable {P:Program} {ops:Array Oper} {Q:Exit->Act->World->Prop} {md:Region.Mode} {z:Nat}
def cf (P:Program)(z:Nat)(md:Region.Mode)(ops:Array Oper)(Q:Exit->Act->World->Prop):Nat->Array Bool->Act->World->Prop
 | 0,listed,a,w=>Region.ready md ops listed=[]/\Q .normal a w
 | n+1,listed,a,w=>(Region.ready md ops listed=[]->Q .normal a w) ∧
   ∀i ∈ Region.ready md ops listed,wpOp P ops Q i (fun a' w'=>(i≠z->w.grownBy w' none)/\cf P z md ops Q n (listed.setIfInBounds i true) a' w') a w
theorem cW:∀(n:Nat) (listed:Array Bool) (a:Act) (w:World),cf P z md ops Q n listed a w->wpAny P md ops Q n listed a w
 | 0,_,_,_,h=>h
 | n+1,_,_,_,h=>⟨h.1,fun i hi=>wpOp_mono (fun a' w' h'=>cW n _ a' w' h'.2) (h.2 i hi)⟩
theorem gD {a b c:World}(h:a.grownBy b none)(k:b.grownBy c none):a.grownBy c none :=
 ⟨k.os.trans h.os,k.tape.trans h.tape,k.output.trans h.output,Nat.le_trans h.size k.size,fun i hi hr=>(k.block i (Nat.lt_of_lt_of_le hi h.size) hr).trans (h.block i hi hr)⟩
theorem fe {o:Oper}{v:Value}{a:Act}{w w':World}(hy:YieldsIf P ops (fun x=>w.grownBy x none) o v a)(h:w.grownBy w' none):YieldsIf P ops (fun x=>w'.grownBy x none) o v a :=
 hy.imp (fun ⟨h1,h2⟩=>⟨h1,fun x hx=>h2 x (gD h hx)⟩) id
def waits (md:Region.Mode)(ops:Array Oper)(z i:Nat):Bool:=match ops[z]? with
 | some o=>o.after.any fun e=>Region.binds md e && e.on==i
 | none=>true
theorem pP {i j:Nat}{listed:Array Bool}(hw:waits md ops z i=true)(hi:i ∈ Region.ready md ops listed)(hj:j ∈ Region.ready md ops listed):j≠z:=by
 rintro rfl
 obtain ⟨_,oj,hoj,hall⟩:=mem_ready.1 hj
 unfold waits at hw
 rw [hoj] at hw
 obtain ⟨e,he,h1⟩:=Array.any_eq_true'.1 hw
 simp only [Bool.and_eq_true,beq_iff_eq] at h1
 have h2:=hall e he h1.1
 have h0:=(mem_ready.1 hi).1
 rw [h1.2] at h2
 rcases Nat.lt_or_ge i listed.size with h' | h'
 ·simp [h'] at h0 h2;rw [h0] at h2;cases h2
 ·simp [Array.getElem?_eq_none h'] at h2
theorem ff {i:Nat}{oi:Oper}{v:Value}(hi:ops[i]? = some oi)(hsel:∀(j:Nat) (o:Oper) cs b,ops[j]? = some o->o.op≠.select cs b)
  (hz:waits md ops z i=true) (hQ:∀c a w,Q (.panic c) (a.put oi.dst v) w->Q (.panic c) a w) :
  ∀(n:Nat) (listed:Array Bool) (a:Act) (w:World),
   (∀j oj,ops[j]? = some oj->j≠i->listed.getD j true=false->(∀e ∈ oj.after,Region.binds md e=true->e.on≠i)->oi.apart ops oj=true) →
   i ∈ Region.ready md ops listed->YieldsIf P ops (fun x=>w.grownBy x none) oi v a →
   cf P z md ops Q n (listed.setIfInBounds i true) (a.put oi.dst v) w->cf P z md ops Q (n+1) listed a w:=by
 intro n
 have self:∀w:World,w.grownBy w none:=fun w=>⟨rfl,rfl,rfl,Nat.le_refl _,fun _ _ _=>rfl⟩
 induction n with
 | zero =>
  intro listed a w _ hr hy H
  refine ⟨fun h=>(by rw [h] at hr;cases hr),fun j hj=>?_⟩
  by_cases hji:j=i
  ·subst hji;exact hy.wpOp hi (self w) ⟨fun _=>self w,H⟩
  ·have h0:=ready_mono hj hji
   rw [H.1] at h0
   cases h0
 | succ n ih =>
  intro listed a w hfree hr hy H
  refine ⟨fun h=>(by rw [h] at hr;cases hr),fun j hj=>?_⟩
  by_cases hji:j=i
  ·subst hji;exact hy.wpOp hi (self w) ⟨fun _=>self w,H⟩
  ·have h1:=H.2 j (ready_mono hj hji)
   obtain ⟨hjun,oj,hoj,hall⟩:=mem_ready.1 hj
   have hnot:∀e ∈ oj.after,Region.binds md e=true->e.on≠i:=fun e he hb heq=>by
    have h2:=hall e he hb
    have h0:=(mem_ready.1 hr).1
    rw [heq] at h2
    rcases Nat.lt_or_ge i listed.size with h' | h'
    ·simp [h'] at h0 h2;rw [h0] at h2;cases h2
    ·simp [Array.getElem?_eq_none h'] at h2
   have h2:=wpOp_putIf hoj (hfree j oj hoj hji hjun hnot) (fun cs b=>hsel i oi cs b hi) (fun cs b=>hsel j oj cs b hoj) hQ hy h1
   have hfree':∀k ok,ops[k]? = some ok->k≠i->(listed.setIfInBounds j true).getD k true=false →
     (∀e ∈ ok.after,Region.binds md e=true->e.on≠i)->oi.apart ops ok=true:=fun k ok hk hki hun hno=>by
    refine hfree k ok hk hki ?_ hno
    by_cases hjk:j=k
    ·subst hjk;exact hjun
    ·rw [getD_set_ne true hjk] at hun;exact hun
   have hjz:j≠z:=pP hz hr hj
   refine wpOp_mono (fun a' w' h3=>⟨h3.2.1,ih (listed.setIfInBounds j true) a' w' hfree' (ready_mono hr (Ne.symm hji)) (fe h3.1 (h3.2.1 hjz)) ?_⟩) h2
   rw [Array.setIfInBounds_comm _ _ hji]
   exact h3.2.2
theorem cI {i:Nat}{oi:Oper}{l:List Oper}(h:ops.toList.drop i=oi :: l):ops[i]? = some oi:=by
 have h1:(ops.toList.drop i)[0]? = some oi:=by rw [h];rfl
 rw [List.getElem?_drop] at h1
 simpa using h1
theorem aE {i:Nat}{oi:Oper}{l:List Oper}{d:Option Tmp}{v:Value}{n:Nat}{listed:Array Bool}{a:Act}{w:World}(hi:ops.toList.drop i=oi :: l)(hd:oi.dst=d)
  (hs:Region.noSelect ops=true) (hz:waits md ops z i=true) (hf:Region.free md ops listed i=true) (hr:(Region.ready md ops listed).contains i=true)
  (hQ:∀c a w,Q (.panic c) (a.put d v) w->Q (.panic c) a w) (hw:Region.wanted oi (yielded ops a.tmps)=true) (hy:∀x:World,w.grownBy x none->(execOp a.eval oi).run P x=.ok (.value v) x)
  (h:cf P z md ops Q n (listed.setIfInBounds i true) (a.put d v) w):cf P z md ops Q (n+1) listed a w:=by
 subst hd
 exact ff (cI hi) (Region.noSelect_spec hs) hz hQ n listed a w (Region.free_spec (cI hi) hf) (by simpa using hr) (.inl ⟨hw,hy⟩) h
theorem gE {i:Nat}{oi:Oper}{l:List Oper}{n:Nat}{listed:Array Bool}{a:Act}{w:World}(hi:ops.toList.drop i=oi :: l)(hr:Region.ready md ops listed=[i])(hw:Region.wanted oi (yielded ops a.tmps)=true)
  (h:∀K:Act->World->Prop,Shut (∀a' w',(i≠z->w.grownBy w' none)->cf P z md ops Q n (listed.setIfInBounds i true) a' w'->K a' w')->Oper.wp P oi a w K Q):cf P z md ops Q (n+1) listed a w:=by
 refine ⟨fun h0=>(by rw [hr] at h0;cases h0),fun j hj=>?_⟩
 rw [hr] at hj
 have e:j=i:=by simpa using hj
 subst e
 refine wpOp_step (cI hi) fun K hK=>?_
 rw [if_pos hw]
 exact h K fun a' w' h1 h2=>hK a' w' ⟨h1,h2⟩
theorem fH {n:Nat}{listed:Array Bool}{a:Act}{w:World}(hr:Region.ready md ops listed=[])(h:Q .normal a w):cf P z md ops Q n listed a w:=by
 cases n with
 | zero=>exact ⟨hr,h⟩
 | succ n=>exact ⟨fun _=>h,by rw [hr];simp⟩
theorem dY (z:Nat){id:Nat}{a:Act}{w:World}(hm:P.follows .mixedOrders=true)(h:cf P z .any ops Q ops.size (Array.replicate ops.size false) a w.drew):(Code.region id ops true).wp P Q a w :=
 wp_region_any hm (cW _ _ _ _ h)
end
attribute [local go_sem ↓] Go.wp_at_zero Go.wp_at_succ
theorem iC:tabV.size=16:=dS _ _
theorem gU (w:World)(x:UInt8):Seg (w.alloc (.cells #[.int .u8 (x.toNat:Int)] 5)) (.slice (some ⟨w.heap.size,0,none⟩) 1 1) [x]:=by
 refine ⟨_,1,rfl,by simp,by unfold maxLen;omega,by simp,fun j hj=>⟨w.heap.size,0,rfl,?_⟩⟩
 have e:j=0:=by simp at hj;omega
 subst e
 rw [cell_of_row _ _ _ _ _ _ (heap_alloc_new w _)]
 rfl
attribute [local go_sem ↓] Go.wp_at_zero Go.wp_at_succ
attribute [local go_sem ↓] Go.wp_at_zero Go.wp_at_succ
attribute [local go_sem ↓] Go.wp_at_zero Go.wp_at_succ
def Segs (w:World)(v:Value)(Ls:List (List UInt8)):Prop :=
 ∃ao cap,v=.slice ao Ls.length cap/\Ls.length<=9223372036854775807/\∀j (hj:j<Ls.length),∃b off x,ao=some ⟨b,off,none⟩/\w.cell? ⟨b,off+j,none⟩=some x/\Seg w x Ls[j]
theorem Segs.grown {w w':World}{v:Value}{Ls:List (List UInt8)}(h:Segs w v Ls)(hg:w.grownBy w' none):Segs w' v Ls:=by
 obtain ⟨ao,cap,h1,h2,h3⟩:=h
 refine ⟨ao,cap,h1,h2,fun j hj=>?_⟩
 obtain ⟨b,off,x,q1,q2,q3⟩:=h3 j hj
 exact ⟨b,off,x,q1,hg.cell q2 (by simp),q3.grown hg⟩
theorem vS:IntKind.u32.max=((4294967295:Nat):Int):=by decide
theorem rL {a:Nat}(h:a<4294967296):bits .xor .u32 IntKind.u32.max (a:Int)=(inv a:Int):=by
 rw [vS,u32_xor_nat 4294967295 a (by omega) h,Nat.xor_comm]
 rfl
theorem lR {a:Nat}(h:a<4294967296):bits .xor .u32 (a:Int) 4294967295=(inv a:Int):=u32_xor_nat a 4294967295 h (by omega)
theorem inv0:inv 0=4294967295:=by decide
theorem sum7 (v:Value)(Ls:List (List UInt8))(w:World)(hL:Segs w v Ls) :
  Calls Tryz.prog 122 #[v] w fun e w'=>e=.returned (.int .u32 (sum Ls.flatten))/\w.grownBy w' none:=by
 obtain ⟨ao,cap,rfl,hlen,hcells⟩:=hL
 have HC:Hid _:=hcells
 clear hcells
 go_enter Tryz.func122,Tryz.ntmps122
 go_wp2_with fail
 refine (pO _).mono ?_
 rintro e w1 ⟨rfl,g1⟩
 have G1:Hid (w.grownBy (w1.alloc (.cells tabV 210)) none/\Blk (w1.alloc (.cells tabV 210)) w1.heap.size 210 tabV):=⟨aa g1 (World.grownBy_alloc _ _ _),heap_alloc_new _ _⟩
 clear g1
 go_wp2_with (first | (refine bj _ rfl rfl (.tmp 3) (.tmp 7) 210 rfl w1.heap.size tabV (Array.replicate 16 (.int .u32 0)) (by rw [iC];exact Tryz.size210) (by rw [iC];simp) (lQ _ _) rfl rfl (heap_alloc_new w1 _) ?_;rw [World.setRow_alloc_new]))
 go_loopw [4,10] (fun s i wr=>∃k:Nat,k<=Ls.length/\s=.int .u32 (crcL 4294967295 (Ls.take k).flatten)/\i=.int .i64 k/\Blk wr w1.heap.size 210 tabV/\w.grownBy wr none) (fun _ i _=>Ls.length-(intOf i).toNat)
 case atStart=>exact ⟨0,by omega,rfl,rfl,G1.out.2,G1.out.1⟩
 case round =>
  obtain ⟨k,hk,rfl,rfl,hb,hg⟩:=hrel
  have hlt32:=iY (Ls.take k).flatten (s:=4294967295) (by omega)
  by_cases hlt:k<Ls.length
  ·have HE:Hid (crcL 4294967295 (Ls.take (k+1)).flatten=crcL (crcL 4294967295 (Ls.take k).flatten) Ls[k]):=by
    unfold Hid
    rw [List.take_succ_eq_append_getElem hlt,List.flatten_append,lK]
    simp
   obtain ⟨bb,off,x,rfl,hcell,hseg⟩:=HC.out k hlt
   have c1:=hg.cell hcell (by simp)
   have HS:Hid (Seg wr x Ls[k]):=hseg.grown hg
   have HR:Hid (Blk wr w1.heap.size 210 tabV/\w.grownBy wr none):=⟨hb,hg⟩
   obtain ⟨a,hea⟩:∃a,crcL 4294967295 (Ls.take k).flatten=a:=⟨_,rfl⟩
   rw [hea] at HE hlt32 ⊢
   have i1:(0:Int)<=(k:Int):=by omega
   have i2:(k:Int)<(Ls.length:Int):=by omega
   clear hb hg hcell hseg hea
   go_wp2_with (first | (refine bG _ rfl (.tmp 3) 210 rfl w1.heap.size 16 137 tabV Tryz.underlying210 (by rw [iC];exact Tryz.size210) rfl HR.out.1 ?_))
   refine (rK a _ _ _ hlt32 HS.out).mono ?_
   rw [<-HE.out]
   rintro e w2 ⟨rfl,g2⟩
   have HR2:Hid (Blk w2 w1.heap.size 210 tabV/\w.grownBy w2 none):=⟨HR.out.1.kept g2 (by simp),aa HR.out.2 g2⟩
   clear g2 HR HS
   go_wp2_with fail
   go_roundw
   case rel=>exact ⟨k+1,by omega,rfl,by go_num,HR2.out.1,HR2.out.2⟩
   case measure=>simp [intOf];omega
  ·have e:k=Ls.length:=by omega
   subst e
   rw [List.take_length] at hlt32 ⊢
   have e2:Hid (sum Ls.flatten=inv (crcL 4294967295 Ls.flatten)):=by
    unfold Hid sum more
    rw [inv0]
   have ox:=rL hlt32
   obtain ⟨a,hea⟩:∃a,crcL 4294967295 Ls.flatten=a:=⟨_,rfl⟩
   rw [hea] at ox e2 hlt32 ⊢
   obtain ⟨r,her⟩:∃r,inv a=r:=⟨_,rfl⟩
   rw [her] at ox e2
   have HG:Hid _:=hg
   clear hb hg hea her
   go_wp2_with fail
   go_ret
   exact ⟨by rw [e2.out];rfl,HG.out⟩
theorem ve (s:Nat)(v:Value)(L:List UInt8)(w:World)(hs:s<4294967296)(hL:Seg w v L) :
  Calls Tryz.prog 100 #[.int .u32 s,v] w fun e w'=>e=.returned (.int .u32 (more s L))/\w'=w:=by
 obtain ⟨ao,cap,rfl⟩:=hL.shape
 have hlen:=hL.len
 have HL:Hid _:=hL
 have x1:=lR hs
 have hi:=nD hs
 have HM:Hid (more s L=inv (crcL (inv s) L)):=rfl
 obtain ⟨s0,hs0⟩:∃s0,inv s=s0:=⟨_,rfl⟩
 rw [hs0] at x1 hi HM
 clear hL hs0
 go_enter Tryz.func100,Tryz.ntmps100
 go_wp2_with fail
 go_loopw [5,6] (fun x i wr=>∃k:Nat,k<=L.length/\x=.int .u32 (crcL s0 (L.take k))/\i=.int .i64 k/\wr=w) (fun _ i _=>L.length-(intOf i).toNat)
 case atStart=>exact ⟨0,by omega,rfl,rfl,rfl⟩
 case round =>
  obtain ⟨k,hk,rfl,rfl,rfl⟩:=hrel
  have ha:=iY (L.take k) hi
  by_cases hlt:k<L.length
  ·have e1:crcL s0 (L.take (k+1))=crcB (crcL s0 (L.take k)) L[k]:=by
    rw [List.take_succ_eq_append_getElem hlt,kj]
   obtain ⟨a,hea⟩:∃a,crcL s0 (L.take k)=a:=⟨_,rfl⟩
   obtain ⟨_,_,hv,_,_,_,h4⟩:=HL.out
   simp at hv
   obtain ⟨rfl,rfl⟩:=hv
   obtain ⟨bb,off,rfl,hcell⟩:=h4 k hlt
   obtain ⟨c,hc⟩:∃c:UInt8,L[k]=c:=⟨_,rfl⟩
   rw [hc] at hcell e1
   have hx:=ei c
   rw [hea] at ha e1 ⊢
   unfold crcB at e1
   obtain ⟨x,hex⟩:∃x:Nat,c.toNat=x:=⟨_,rfl⟩
   rw [hex] at hcell e1 hx
   have f1:bits .xor .u32 (a:Int) (x:Int)=((a ^^^ x:Nat):Int):=u32_xor_nat a x ha (by omega)
   have hy1:a ^^^ x<4294967296:=Nat.xor_lt_two_pow (n:=32) ha (by omega)
   obtain ⟨y1,hey1⟩:∃y,a ^^^ x=y:=⟨_,rfl⟩
   rw [hey1] at f1 hy1 e1
   have HE:Hid _:=e1
   have i1:(0:Int)<=(k:Int):=by omega
   have i2:(k:Int)<(L.length:Int):=by omega
   have wx:IntKind.u32.wrap (x:Int)=(x:Int):=by rw [IntKind.wrap_u32'];omega
   clear e1 hea h4 hc hex hey1
   go_wp2_with fail
   refine (vd y1 hy1 _).mono ?_
   rw [<-HE.out]
   rintro e w1 ⟨rfl,he⟩;subst he
   go_wp2_with fail
   go_roundw
   case rel=>exact ⟨k+1,by omega,rfl,by go_num,trivial⟩
   case measure=>simp [intOf];omega
  ·have e:k=L.length:=by omega
   subst e
   rw [List.take_length] at ha ⊢
   have ox:=lR ha
   rw [<-HM.out] at ox
   obtain ⟨a,hea⟩:∃a,crcL s0 L=a:=⟨_,rfl⟩
   rw [hea] at ox ⊢
   clear hea
   go_wp2_with fail
   go_ret
   exact ⟨rfl,rfl⟩
theorem sum8 (v:Value)(L:List UInt8)(w:World)(hL:Seg w v L) :
  Calls Tryz.prog 75 #[v] w fun e w'=>e=.returned (.int .u32 (sum L))/\w'=w:=by
 have HL:Hid _:=hL
 obtain ⟨ao,cap,rfl⟩:=hL.shape
 have HS:Hid (sum L=more 0 L):=rfl
 clear hL
 go_enter Tryz.func75,Tryz.ntmps75
 go_wp2_with fail
 refine (ve 0 _ L _ (by omega) HL.out).mono ?_
 rw [<-HS.out]
 rintro e w1 ⟨rfl,he⟩;subst he
 go_wp2_with fail
 go_ret
 exact ⟨rfl,rfl⟩
theorem ch {w:World}{v u:Value}{L M:List UInt8}(h:Seg w v L)(hu:Seg w u M):Segs (w.alloc (.cells #[v,u] 23)) (.slice (some ⟨w.heap.size,0,none⟩) 2 2) [L,M]:=by
 refine ⟨_,2,rfl,by simp,fun j hj=>?_⟩
 have hj2:j<2:=hj
 match j,hj2 with
 | 0,_=>exact ⟨w.heap.size,0,v,rfl,by rw [cell_of_row _ _ _ _ _ _ (heap_alloc_new w _)];rfl,aH h _⟩
 | 1,_=>exact ⟨w.heap.size,0,u,rfl,by rw [cell_of_row _ _ _ _ _ _ (heap_alloc_new w _)];rfl,aH hu _⟩
theorem fI (w:World):Segs w (.slice none 0 0) []:=⟨none,0,rfl,by simp,fun j hj=>absurd hj (by simp)⟩
end Go.Proofs.YtadhfejefpildaaGreat.Crc
