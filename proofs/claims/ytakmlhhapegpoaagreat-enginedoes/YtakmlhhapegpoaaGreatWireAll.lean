import Derived.Below
import Derived.Test.YtakmlhhapegpoaaGreatProg
import Derived.KernelRfl
import Derived.WalkKit
import Derived.WalkSpells
import Derived.WalkLawsBesides
import Derived.Laws.AppendOwnNone
import Derived.Laws.BytesArg
import Derived.Laws.IdiomStrings
set_option maxHeartbeats 1000000
set_option maxRecDepth 100000
namespace Go.Proofs.YtakmlhhapegpoaaGreat.Wire
def numDigits:Nat->Nat->List UInt8
 | 0,n=>[UInt8.ofNat n]
 | k+1,n=>if n<128 then [UInt8.ofNat n] else UInt8.ofNat (n % 128+128) :: numDigits k (n / 128)
def numForm (n:Nat):List UInt8:=numDigits n n
def scan (p acc:Nat):List UInt8->Option (Nat × Nat)
 | []=>none
 | c :: l=>if (0<p/\c.toNat=0)\/(p=9/\1<c.toNat) then none else
   if c.toNat<128 then some (acc+(c.toNat % 128)*2 ^ (7*p),p+1) else scan (p+1) (acc+(c.toNat % 128)*2 ^ (7*p)) l
theorem numDigits_enough:∀(k n:Nat),n<=k->∀m,n<=m->numDigits k n=numDigits m n
 | 0,n,h,m,_=>by
  have h0:n=0:=by omega
  subst h0
  cases m <;> simp [numDigits]
 | k+1,n,h,m,hm=>by
  cases m with
  | zero =>
   have h0:n=0:=by omega
   subst h0
   simp [numDigits]
  | succ m =>
   simp only [numDigits]
   by_cases hn:n<128
   ·rw [if_pos hn,if_pos hn]
   ·rw [if_neg hn,if_neg hn,numDigits_enough k (n / 128) (by omega) m (by omega)]
theorem numForm_small {n:Nat}(h:n<128):numForm n=[UInt8.ofNat n]:=by
 unfold numForm;cases n <;> simp [numDigits,h]
theorem numForm_big {n:Nat}(h:¬n<128):numForm n=UInt8.ofNat (n % 128+128) :: numForm (n / 128):=by
 unfold numForm
 cases n with
 | zero=>omega
 | succ n =>
  simp only [numDigits]
  rw [if_neg h,numDigits_enough n ((n+1) / 128) (by omega) ((n+1) / 128) (Nat.le_refl _)]
theorem numForm_len:∀(k n:Nat),n<2 ^ (7*k+7)->(numForm n).length<=k+1
 | 0,n,h=>by rw [numForm_small (by simpa using h)];simp
 | k+1,n,h=>by
  by_cases hn:n<128
  ·rw [numForm_small hn];simp
  ·rw [numForm_big hn]
   have:=numForm_len k (n / 128) (by rw [Nat.div_lt_iff_lt_mul (by omega)];have e:2 ^ (7*(k+1)+7)=2 ^ (7*k+7)*128:=by rw [show 7*(k+1)+7=(7*k+7)+7 by omega,Nat.pow_add]
                                     omega)
   simp;omega
theorem numForm_len10 (n:Nat)(h:n<2 ^ 64):(numForm n).length<=10:=numForm_len 9 n (Nat.lt_trans h (by decide))
end Go.Proofs.YtakmlhhapegpoaaGreat.Wire
namespace Go.Proofs.YtakmlhhapegpoaaGreat.Wire
open Go.RowKit
def BV (L:List UInt8):List Value:=L.map fun u=>Value.int .u8 (u.toNat:Int)
theorem BV_append (L M:List UInt8):BV (L ++ M)=BV L ++ BV M:=by simp [BV]
theorem BV_one (L:List UInt8):∀u ∈ BV L,u.oneCell'=true:=by
 intro u hu;simp [BV] at hu;obtain ⟨x,_,rfl⟩:=hu;rfl
def Seg (w:World)(v:Value)(L:List UInt8):Prop :=
 ∃ao cap,v=.slice ao L.length cap/\L.length<=cap/\cap<=maxLen/\(ao=none->cap=0)/\∀j (hj:j<L.length),∃b off,ao=some ⟨b,off,none⟩/\w.cell? ⟨b,off+j,none⟩=some (.int .u8 (L[j].toNat:Int))
def Own (w:World)(B:Nat)(v:Value)(L:List UInt8):Prop:=w.ownsRow B 5 1 v L.length (BV L)
theorem grown_refl (w:World)(r:Option Nat):w.grownBy w r:=⟨rfl,rfl,rfl,Nat.le_refl _,fun _ _ _=>rfl⟩
theorem grown_weak {w w':World}(h:w.grownBy w' none)(r:Option Nat):w.grownBy w' r:=⟨h.os,h.tape,h.output,h.size,fun k hk _=>h.block k hk (by simp)⟩
theorem grown_trans {a b c:World}{r:Option Nat}(h:a.grownBy b r)(k:b.grownBy c r):a.grownBy c r :=
 ⟨k.os.trans h.os,k.tape.trans h.tape,k.output.trans h.output,Nat.le_trans h.size k.size,fun i hi hr=>(k.block i (Nat.lt_of_lt_of_le hi h.size) hr).trans (h.block i hi hr)⟩
theorem grown_new {a b c:World}{r q:Option Nat}(h:a.grownBy b r)(k:b.grownBy c q)(hq:∀x,q=some x->a.heap.size<=x):a.grownBy c r :=
 ⟨k.os.trans h.os,k.tape.trans h.tape,k.output.trans h.output,Nat.le_trans h.size k.size,fun i hi hr=>(k.block i (Nat.lt_of_lt_of_le hi h.size) (fun e=>by have:=hq i e.symm;omega)).trans (h.block i hi hr)⟩
theorem grown_drew (w:World)(r:Option Nat):w.grownBy w.drew r:=⟨rfl,rfl,rfl,Nat.le_refl _,fun _ _ _=>rfl⟩
theorem grown_setCell (w:World)(b o:Nat)(v:Value):w.grownBy (w.setCell ⟨b,o,none⟩ v) (some b) :=
 ⟨rfl,rfl,rfl,by simp [World.setCell],fun k _ hk=>heap_setCell_other w ⟨b,o,none⟩ k v (fun e=>hk (by simp [e]))⟩
theorem grown_below {w w':World}(h:w.grownBy w' none):Below w.heap.size w w':=⟨h.os,h.tape,h.output,h.size,fun k hk=>h.block k hk (by simp)⟩
theorem Seg.len {w:World}{v:Value}{L:List UInt8}(h:Seg w v L):L.length<=9223372036854775807:=by
 obtain ⟨ao,cap,_,h1,h2,_⟩:=h
 unfold maxLen at h2;omega
theorem seg_nil (w:World):Seg w (.slice none 0 0) []:=⟨none,0,rfl,Nat.le_refl _,Nat.zero_le _,fun _=>rfl,fun j hj=>absurd hj (by simp)⟩
theorem Seg.of_cells {w w':World}{v:Value}{L:List UInt8}(h:Seg w v L)(hc:∀b j (x:Int),w.cell? ⟨b,j,none⟩=some (.int .u8 x)->w'.cell? ⟨b,j,none⟩=some (.int .u8 x)):Seg w' v L:=by
 obtain ⟨ao,cap,hv,h1,h2,h3,h4⟩:=h
 refine ⟨ao,cap,hv,h1,h2,h3,fun j hj=>?_⟩
 obtain ⟨b,off,e,hcell⟩:=h4 j hj
 exact ⟨b,off,e,hc _ _ _ hcell⟩
theorem Seg.grown {w w':World}{v:Value}{L:List UInt8}(h:Seg w v L)(hg:w.grownBy w' none):Seg w' v L :=
 h.of_cells fun _ _ _ hc=>hg.cell hc (by simp)
theorem Own.seg {w:World}{B:Nat}{v:Value}{L:List UInt8}(h:Own w B v L):Seg w v L:=by
 rcases h.2 with ⟨rfl,hn⟩ | ⟨g,cap,cur,rfl,hb,hg,hnc,hcm,hcs,ht⟩
 ·have:L=[]:=List.eq_nil_of_length_eq_zero hn
  subst this
  exact seg_nil w
 ·refine ⟨_,cap,rfl,hnc,hcm,by simp,fun j hj=>⟨g,0,rfl,?_⟩⟩
  have:=h.cellAt j (by omega)
  rw [Nat.zero_add,this]
  simp [BV,hj]
theorem Own.nil (w:World)(B:Nat):Own w B (.slice none 0 0) []:=World.ownsRow_nil w B 5 1
theorem Own.mono {w:World}{B B':Nat}{v:Value}{L:List UInt8}(h:Own w B v L)(hB:B'<=B):Own w B' v L:=by
 refine ⟨h.1,?_⟩
 rcases h.2 with h2 | ⟨g,cap,cur,h1,hb,h3⟩
 ·exact .inl h2
 ·exact .inr ⟨g,cap,cur,h1,by omega,h3⟩
theorem Own.grown {w w':World}{B:Nat}{v:Value}{L:List UInt8}(h:Own w B v L)(hg:w.grownBy w' none):Own w' B v L:=h.kept hg (by cases v.ownBlock <;> simp)
theorem wrap_u64 (n:Nat)(h:n<2 ^ 64):IntKind.u64.wrap (n:Int)=n:=by
 have e:(2:Nat) ^ 64=18446744073709551616:=by decide
 simp only [IntKind.wrap,IntKind.bits,IntKind.signed]
 simp
 omega
end Go.Proofs.YtakmlhhapegpoaaGreat.Wire
namespace Go.Proofs.YtakmlhhapegpoaaGreat.Wire
end Go.Proofs.YtakmlhhapegpoaaGreat.Wire
namespace Go.Proofs.YtakmlhhapegpoaaGreat.Wire
open Go.RowKit
theorem Tryz.info5:(Tryz.prog.info? 5).map (fun i=>(i.zero,i.size,i.bytes))=some (some (.int .u8 0),1,1):=by kernel_rfl
theorem seg_news {w:World}{ad:Addr}{n cap:Nat}{L:List UInt8}(h:Seg w (.slice (some ad) n cap) L):n=L.length/\∀j u,(BV L)[j]? = some u->w.cell? (ad.add j)=some u:=by
 obtain ⟨ao,cap',hv,h1,h2,h3,h4⟩:=h
 simp at hv;obtain ⟨rfl,rfl,rfl⟩:=hv
 refine ⟨rfl,fun j u hj=>?_⟩
 have hjl:j<L.length:=by
  have:=(List.getElem?_eq_some_iff.1 hj).1
  simpa [BV] using this
 obtain ⟨b,off,e,hc⟩:=h4 j hjl
 simp at e;subst e
 have e2:(⟨b,off,none⟩:Addr).add j=⟨b,off+j,none⟩:=by
  unfold Addr.add;by_cases hz:j=0
  ·subst hz;simp
  ·simp [hz]
 rw [e2,hc]
 simp [BV,hjl] at hj
 rw [hj]
theorem app23 {ops:Array Oper}{rest:List Oper}{o:Oper}{a:Act}{Q:Exit->Act->World->Prop}(w:World)(hgd:o.guard=none)(s x:Operand)
  (ho:o.op=.call { callee:=.builtin .append,args:=#[s,x],argTypes:=#[59,59] })
  (B:Nat) (v:Value) (L:List UInt8) (u:Value) (M:List UInt8) (hs:a.eval s=v) (hx:a.eval x=u) (hown:Own w B v L) (hseg:Seg w u M) (hb:L.length+M.length<=140737488355328) (hB:B<=w.heap.size)
  (h:∀v' w',Own w' B v' (L ++ M)->w.grownBy w' v.ownBlock->wpList Tryz.prog ops Q rest (a.put o.dst v') w'):wpList Tryz.prog ops Q (o :: rest) a w:=by
 obtain ⟨i0,hi,hz0,hz1,hz2⟩:=info_parts Tryz.info5
 have hsg:=hseg
 obtain ⟨ao,cap,rfl,h1,h2,h3,h4⟩:=hsg
 cases ao with
 | none =>
  have hM0:M=[]:=List.eq_nil_of_length_eq_zero (by have:=h3 rfl;omega)
  have hc0:cap=0:=h3 rfl
  subst hM0;subst hc0
  refine wpList_append_own_none hgd s x 59 ho B 5 i0 1 Tryz.underlying59 hi v _ _ hs hown hx ?_
  exact h v w (by simpa using hown) (grown_refl _ _)
 | some ad =>
  obtain ⟨_,hnews⟩:=seg_news hseg
  refine wpList_append_own w hgd s x 59 ho B 5 i0 (.int .u8 0) 1 1 Tryz.underlying59 hi hz0 hz1 hz2 rfl (by decide) v L.length (BV L) hs hown ad M.length cap (BV M) hx (by simp [BV]) hnews (BV_one M) (by unfold maxLen;omega) (by omega) hB ?_
  intro v' w' h1 h2 _
  exact h v' w' (by unfold Own;rw [BV_append,List.length_append];exact h1) h2
theorem Own.alloc {w:World}{B:Nat}{v:Value}{L:List UInt8}(h:Own w B v L)(o:Obj):Own (w.alloc o) B v L:=World.ownsRow.alloc h o
theorem seg_one (w:World)(x:Int)(c:UInt8)(hx:x=(c.toNat:Int)):Seg (w.alloc (.cells #[.int .u8 x] 5)) (.slice (some ⟨w.heap.size,0,none⟩) 1 1) [c]:=by
 subst hx
 refine ⟨_,1,rfl,Nat.le_refl _,by unfold maxLen;omega,by simp,fun j hj=>⟨w.heap.size,0,rfl,?_⟩⟩
 have:j=0:=by simpa using hj
 subst this
 simp
theorem Own.lt {w:World}{B:Nat}{v:Value}{L:List UInt8}(h:Own w B v L):∀k,v.ownBlock=some k->B<=k:=fun k hk=>(World.ownsRow.lt h k hk).1
theorem number9 (n:Nat)(hn:n<2 ^ 64)(w:World) :
  Calls Tryz.prog 142 #[.int .u64 n] w fun e w'=>∃u,e=.returned u/\Own w' w.heap.size u (numForm n)/\w.grownBy w' none:=by
 have HN:Hid (n<2 ^ 64):=hn
 clear hn
 go_enter Tryz.func142,Tryz.ntmps142
 go_wp2
 go_loopw [0,3] (fun x v wr=>∃(m:Nat) (P:List UInt8),x=.int .u64 m/\Own wr w.heap.size v P/\Hid (P ++ numForm m=numForm n)/\w.grownBy wr none/\Hid (m<2 ^ 64)) (fun x _ _=>(intOf x).toNat)
 case atStart=>exact ⟨n,[],rfl,Own.nil _ _,rfl,grown_refl _ _,HN⟩
 case round =>
  obtain ⟨m,P,rfl,hown,HP,hg,HM⟩:=hrel
  have hPl:P.length<=10:=by
   have h1:=numForm_len10 n HN.out
   rw [<-HP.out] at h1;simp at h1;omega
  have hsz:=hg.size
  by_cases hm:m<128
  ·go_wp2_with (at_builtin;refine app23 _ rfl _ _ rfl w.heap.size _ P _ [UInt8.ofNat m] rfl rfl (hown.alloc _) (seg_one _ _ _ ?c0) ?c1 ?c2 ?_)
   case c0=>simp;omega
   case c1=>simp;omega
   case c2=>simp;omega
   intro v' w1 hown' hg'
   have F:Hid _:=And.intro hown' (grown_new (grown_trans hg (World.grownBy_alloc wr _ none)) hg' hown.lt)
   clear hown' hg' hg hown
   go_wp2_with fail
   go_ret
   obtain ⟨h1,h2⟩:=F.out
   refine ⟨_,rfl,?_,h2⟩
   rw [<-HP.out,numForm_small hm]
   exact h1
  ·have hm64:m<=18446744073709551615:=by have:=HM.out;omega
   obtain ⟨c,hc⟩:∃c:UInt8,c=UInt8.ofNat (m % 128+128):=⟨_,rfl⟩
   have HC:Hid _:=hc
   clear hc
   go_wp2_with (at_builtin;refine app23 _ rfl _ _ rfl w.heap.size _ P _ [c] rfl rfl (hown.alloc _) (seg_one _ _ _ ?d0) ?d1 ?d2 ?_)
   case d0=>rw [HC.out];simp;omega
   case d1=>simp;omega
   case d2=>simp;omega
   intro v' w1 hown' hg'
   have F:Hid _:=And.intro hown' (grown_new (grown_trans hg (World.grownBy_alloc wr _ none)) hg' hown.lt)
   clear hown' hg' hg hown
   go_wp2_with fail
   obtain ⟨h1,h2⟩:=F.out
   have h3:m / 128<2 ^ 64:=Nat.lt_of_le_of_lt (Nat.div_le_self _ _) HM.out
   go_roundw
   case rel=>exact ⟨m / 128,P ++ [c],by go_num,h1,by have:=HP.out;rw [numForm_big hm,<-HC.out] at this;simpa [Hid] using this,h2,h3⟩
   case measure=>simp [intOf];omega
theorem number12 (n:Nat)(hn:n<2 ^ 64)(w:World) :
  Calls Tryz.prog 123 #[.int .u64 n] w fun e w'=>∃u,e=.returned u/\Own w' w.heap.size u (numForm n)/\w.grownBy w' none:=by
 have HN:Hid (n<2 ^ 64):=hn
 clear hn
 go_enter Tryz.func123,Tryz.ntmps123
 go_wp2
 go_loopw [0,3] (fun x v wr=>∃(m:Nat) (P:List UInt8),x=.int .u64 m/\Own wr w.heap.size v P/\Hid (P ++ numForm m=numForm n)/\w.grownBy wr none/\Hid (m<2 ^ 64)) (fun x _ _=>(intOf x).toNat)
 case atStart=>exact ⟨n,[],rfl,Own.nil _ _,rfl,grown_refl _ _,HN⟩
 case round =>
  obtain ⟨m,P,rfl,hown,HP,hg,HM⟩:=hrel
  have hPl:P.length<=10:=by
   have h1:=numForm_len10 n HN.out
   rw [<-HP.out] at h1;simp at h1;omega
  have hsz:=hg.size
  by_cases hm:m<128
  ·go_wp2_with (at_builtin;refine app23 _ rfl _ _ rfl w.heap.size _ P _ [UInt8.ofNat m] rfl rfl (hown.alloc _) (seg_one _ _ _ ?c0) ?c1 ?c2 ?_)
   case c0=>simp;omega
   case c1=>simp;omega
   case c2=>simp;omega
   intro v' w1 hown' hg'
   have F:Hid _:=And.intro hown' (grown_new (grown_trans hg (World.grownBy_alloc wr _ none)) hg' hown.lt)
   clear hown' hg' hg hown
   go_wp2_with fail
   go_ret
   obtain ⟨h1,h2⟩:=F.out
   refine ⟨_,rfl,?_,h2⟩
   rw [<-HP.out,numForm_small hm]
   exact h1
  ·have hm64:m<=18446744073709551615:=by have:=HM.out;omega
   obtain ⟨c,hc⟩:∃c:UInt8,c=UInt8.ofNat (m % 128+128):=⟨_,rfl⟩
   have HC:Hid _:=hc
   clear hc
   go_wp2_with (at_builtin;refine app23 _ rfl _ _ rfl w.heap.size _ P _ [c] rfl rfl (hown.alloc _) (seg_one _ _ _ ?d0) ?d1 ?d2 ?_)
   case d0=>rw [HC.out];simp;omega
   case d1=>simp;omega
   case d2=>simp;omega
   intro v' w1 hown' hg'
   have F:Hid _:=And.intro hown' (grown_new (grown_trans hg (World.grownBy_alloc wr _ none)) hg' hown.lt)
   clear hown' hg' hg hown
   go_wp2_with fail
   obtain ⟨h1,h2⟩:=F.out
   have h3:m / 128<2 ^ 64:=Nat.lt_of_le_of_lt (Nat.div_le_self _ _) HM.out
   go_roundw
   case rel=>exact ⟨m / 128,P ++ [c],by go_num,h1,by have:=HP.out;rw [numForm_big hm,<-HC.out] at this;simpa [Hid] using this,h2,h3⟩
   case measure=>simp [intOf];omega
theorem seg_alloc {w:World}{v:Value}{L:List UInt8}(h:Seg w v L)(x:Obj):Seg (w.alloc x) v L:=h.grown (World.grownBy_alloc w x none)
theorem Seg.shape {w:World}{v:Value}{L:List UInt8}(h:Seg w v L):∃ao cap,v=.slice ao L.length cap:=by obtain ⟨ao,cap,h,_⟩:=h;exact ⟨ao,cap,h⟩
end Go.Proofs.YtakmlhhapegpoaaGreat.Wire
namespace Go.Proofs.YtakmlhhapegpoaaGreat.Wire
end Go.Proofs.YtakmlhhapegpoaaGreat.Wire
namespace Go.Proofs.YtakmlhhapegpoaaGreat.Wire
open Go.RowKit
def NV (xs:List Nat):List Value:=xs.map fun (n:Nat)=>Value.int .u64 (n:Int)
def OwnN (w:World)(B:Nat)(v:Value)(xs:List Nat):Prop:=w.ownsRow B 168 1 v xs.length (NV xs)
theorem OwnN.nil (w:World)(B:Nat):OwnN w B (.slice none 0 0) []:=World.ownsRow_nil w B 168 1
theorem OwnN.lt {w:World}{B:Nat}{v:Value}{xs:List Nat}(h:OwnN w B v xs):∀k,v.ownBlock=some k->B<=k:=fun k hk=>(World.ownsRow.lt h k hk).1
theorem OwnN.grown {w w':World}{B:Nat}{v:Value}{xs:List Nat}(h:OwnN w B v xs)(hg:w.grownBy w' none):OwnN w' B v xs:=World.ownsRow.kept h hg (by cases v.ownBlock <;> simp)
theorem OwnN.mono {w:World}{B B':Nat}{v:Value}{xs:List Nat}(h:OwnN w B v xs)(hB:B'<=B):OwnN w B' v xs:=by
 refine ⟨h.1,?_⟩
 rcases h.2 with h2 | ⟨g,cap,cur,h1,hb,h3⟩
 ·exact .inl h2
 ·exact .inr ⟨g,cap,cur,h1,by omega,h3⟩
end Go.Proofs.YtakmlhhapegpoaaGreat.Wire
namespace Go.Proofs.YtakmlhhapegpoaaGreat.Wire
end Go.Proofs.YtakmlhhapegpoaaGreat.Wire
namespace Go.Proofs.YtakmlhhapegpoaaGreat.Wire
open Go.RowKit
def FormPost (L:List UInt8)(w:World)(e:Ending)(w':World):Prop:=∃u,e=.returned u/\Own w' w.heap.size u L/\w.grownBy w' none
theorem number9_int (x:Int)(n:Nat)(hx:x=n)(hn:n<2 ^ 64)(w:World):Calls Tryz.prog 142 #[.int .u64 x] w (FormPost (numForm n) w):=by subst hx;exact number9 n hn w
theorem number12_int (x:Int)(n:Nat)(hx:x=n)(hn:n<2 ^ 64)(w:World):Calls Tryz.prog 123 #[.int .u64 x] w (FormPost (numForm n) w):=by subst hx;exact number12 n hn w
def flagForm (is:Bool):List UInt8:=if is then [1] else [0]
theorem own_lit (w:World)(x:Int)(c:UInt8)(hx:x=(c.toNat:Int)):Own (w.alloc (.cells #[.int .u8 x] 5)) w.heap.size (.slice (some ⟨w.heap.size,0,none⟩) 1 1) [c]:=by
 subst hx
 exact World.ownsRow_lit (base:=w.heap.size) (e:=5) (size:=1) w #[.int .u8 (c.toNat:Int)] 1 (Nat.le_refl _) (by unfold maxLen;omega) rfl
theorem flag15 (is:Bool)(w:World):Calls Tryz.prog 144 #[.bool is] w (FormPost (flagForm is) w):=by
 cases is
 ·go_enter Tryz.func144,Tryz.ntmps144
  go_wp2_with fail
  go_ret
  exact ⟨_,rfl,own_lit w 0 0 rfl,World.grownBy_alloc _ _ _⟩
 ·go_enter Tryz.func144,Tryz.ntmps144
  go_wp2_with fail
  go_ret
  exact ⟨_,rfl,own_lit w 1 1 rfl,World.grownBy_alloc _ _ _⟩
theorem flag16 (is:Bool)(w:World):Calls Tryz.prog 151 #[.bool is] w (FormPost (flagForm is) w):=by
 cases is
 ·go_enter Tryz.func151,Tryz.ntmps151
  go_wp2_with fail
  go_ret
  exact ⟨_,rfl,own_lit w 0 0 rfl,World.grownBy_alloc _ _ _⟩
 ·go_enter Tryz.func151,Tryz.ntmps151
  go_wp2_with fail
  go_ret
  exact ⟨_,rfl,own_lit w 1 1 rfl,World.grownBy_alloc _ _ _⟩
def Segs (w:World)(v:Value)(Ls:List (List UInt8)):Prop :=
 ∃ao cap,v=.slice ao Ls.length cap/\Ls.length<=9223372036854775807/\∀j (hj:j<Ls.length),∃b off x,ao=some ⟨b,off,none⟩/\w.cell? ⟨b,off+j,none⟩=some x/\Seg w x Ls[j]
theorem Segs.grown {w w':World}{v:Value}{Ls:List (List UInt8)}(h:Segs w v Ls)(hg:w.grownBy w' none):Segs w' v Ls:=by
 obtain ⟨ao,cap,hv,h1,h2⟩:=h
 refine ⟨ao,cap,hv,h1,fun j hj=>?_⟩
 obtain ⟨b,off,x,e,hc,hx⟩:=h2 j hj
 exact ⟨b,off,x,e,hg.cell hc (by simp),hx.grown hg⟩
theorem flatten_take_le (Ls:List (List UInt8))(k:Nat):(Ls.take k).flatten.length<=Ls.flatten.length:=by
 have:=congrArg List.length (congrArg List.flatten (List.take_append_drop k Ls))
 simp only [List.flatten_append,List.length_append] at this
 omega
theorem flatten_take_succ (Ls:List (List UInt8))(k:Nat)(h:k<Ls.length):(Ls.take (k+1)).flatten=(Ls.take k).flatten ++ Ls[k]:=by
 rw [List.take_succ_eq_append_getElem h,List.flatten_append,List.flatten_cons,List.flatten_nil,List.append_nil]
theorem join10 (v:Value)(Ls:List (List UInt8))(w:World)(hs:Segs w v Ls)(hsz:Ls.flatten.length<=140737488355328):Calls Tryz.prog 141 #[v] w (FormPost Ls.flatten w):=by
 have HS:Hid (Segs w v Ls):=hs
 have HZ:Hid (Ls.flatten.length<=140737488355328):=hsz
 obtain ⟨ao,cap,rfl,hlen,h4⟩:=hs
 have H4:Hid _:=h4
 clear h4 hsz
 go_enter Tryz.func141,Tryz.ntmps141
 go_wp2
 go_loopw [3,8] (fun x i wr=>∃k:Nat,k<=Ls.length/\i=.int .i64 k/\Own wr w.heap.size x (Ls.take k).flatten/\w.grownBy wr none) (fun _ i _=>Ls.length-(intOf i).toNat)
 case atStart=>exact ⟨0,by omega,rfl,by simpa using Own.nil _ _,grown_refl _ _⟩
 case round =>
  obtain ⟨k,hk,rfl,hown,hg⟩:=hrel
  by_cases hlt:k<Ls.length
  ·obtain ⟨b,off,x,rfl,hc,hx⟩:=H4.out k hlt
   have hcr:wr.cell? ⟨b,off+k,none⟩=some x:=hg.cell hc (by simp)
   have HX:Hid (Seg wr x Ls[k]):=hx.grown hg
   obtain ⟨ao2,cap2,rfl⟩:=hx.shape
   have hle:(Ls.take k).flatten.length+Ls[k].length<=Ls.flatten.length:=by
    have:=flatten_take_le Ls (k+1)
    rw [flatten_take_succ Ls k hlt,List.length_append] at this;exact this
   have hsz:=hg.size
   have HLE:Hid _:=hle
   clear hc hx hle
   obtain ⟨M,hM⟩:∃M,Ls[k]=M:=⟨_,rfl⟩
   obtain ⟨A,hA⟩:∃A,(Ls.take k).flatten=A:=⟨_,rfl⟩
   have HT:Hid ((Ls.take (k+1)).flatten=A ++ M):=by rw [<-hM,<-hA];exact flatten_take_succ Ls k hlt
   rw [hM] at HX HLE hcr
   rw [hA] at hown HLE
   clear hM hA
   go_wp2_with (at_builtin;refine app23 _ rfl _ _ rfl w.heap.size _ A _ M rfl rfl hown HX.out ?c1 ?c2 ?_)
   case c1=>have:=HLE.out;have:=HZ.out;omega
   case c2=>omega
   intro v' w1 hown' hg'
   have F:Hid _:=And.intro hown' (grown_new hg hg' hown.lt)
   clear hown' hg' hg hown hcr
   go_wp2_with fail
   obtain ⟨h1,h2⟩:=F.out
   go_roundw
   case rel=>exact ⟨k+1,by omega,by go_num,by rw [HT.out];exact h1,h2⟩
   case measure=>simp [intOf];omega
  ·have F:Hid _:=And.intro hown hg
   clear hown hg
   go_wp2_with fail
   go_ret
   obtain ⟨h1,h2⟩:=F.out
   rw [List.take_of_length_le (by omega)] at h1
   exact ⟨_,rfl,h1,h2⟩
def bytesForm (L:List UInt8):List UInt8:=numForm L.length ++ L
theorem segs_lit (w:World)(xs:Array Value)(Ls:List (List UInt8))(_hl:xs.size=Ls.length)(hb:Ls.length<=9223372036854775807)(h:∀j (hj:j<Ls.length),∃x,xs[j]? = some x/\Seg w x Ls[j]) :
  Segs (w.alloc (.cells xs 59)) (.slice (some ⟨w.heap.size,0,none⟩) Ls.length Ls.length) Ls:=by
 refine ⟨_,_,rfl,hb,fun j hj=>?_⟩
 obtain ⟨x,hx,hs⟩:=h j hj
 refine ⟨w.heap.size,0,x,rfl,?_,seg_alloc hs _⟩
 rw [cell_of_row _ _ _ _ _ _ (heap_alloc_new w _)]
 simpa using hx
theorem segs_two {w:World}{x y:Value}{L M:List UInt8}(hx:Seg w x L)(hy:Seg w y M):Segs (w.alloc (.cells #[x,y] 59)) (.slice (some ⟨w.heap.size,0,none⟩) 2 2) [L,M] :=
 segs_lit w #[x,y] [L,M] rfl (by simp) fun j hj=>match j,hj with
  | 0,_=>⟨x,rfl,hx⟩
  | 1,_=>⟨y,rfl,hy⟩
  | j+2,h=>absurd h (by simp)
theorem bytes8 (v:Value)(L:List UInt8)(w:World)(hs:Seg w v L)(hsz:L.length<=140737488355318):Calls Tryz.prog 143 #[v] w (FormPost (bytesForm L) w):=by
 have HS:Hid (Seg w v L):=hs
 have HZ:Hid (L.length<=140737488355318):=hsz
 have hlen:=hs.len
 obtain ⟨ao,cap,rfl⟩:=hs.shape
 clear hs hsz
 go_enter Tryz.func143,Tryz.ntmps143
 go_wp2_with fail
 refine (number9_int _ L.length rfl ?_ _).mono ?_
 ·have:=HZ.out;omega
 rintro e w1 ⟨u,rfl,hu,hg⟩
 have F1:Hid (Own w1 w.heap.size u (numForm L.length)/\w.grownBy w1 none):=⟨hu,hg⟩
 obtain ⟨ao1,cap1,rfl⟩:=hu.seg.shape
 clear hu hg
 go_wp2_with fail
 refine (join10 _ [numForm L.length,L] _ (segs_two F1.out.1.seg (Seg.grown HS.out F1.out.2)) ?_).mono ?_
 ·have:=HZ.out
  have:=numForm_len10 L.length (by omega)
  simp;omega
 rintro e w2 ⟨u2,rfl,hu2,hg2⟩
 have F2:Hid (Own w2 w.heap.size u2 (bytesForm L)/\w.grownBy w2 none):=by
  have hsz:=F1.out.2.size
  refine ⟨?_,grown_trans (grown_trans F1.out.2 (World.grownBy_alloc _ _ _)) hg2⟩
  have e:[numForm L.length,L].flatten=bytesForm L:=by simp [bytesForm]
  rw [e] at hu2
  exact hu2.mono (by simp;omega)
 clear hu2 hg2
 go_wp2_with fail
 go_ret
 exact ⟨_,rfl,F2.out⟩
theorem bytes11 (v:Value)(L:List UInt8)(w:World)(hs:Seg w v L)(hsz:L.length<=140737488355318):Calls Tryz.prog 150 #[v] w (FormPost (bytesForm L) w):=by
 have HS:Hid (Seg w v L):=hs
 have HZ:Hid (L.length<=140737488355318):=hsz
 have hlen:=hs.len
 obtain ⟨ao,cap,rfl⟩:=hs.shape
 clear hs hsz
 go_enter Tryz.func150,Tryz.ntmps150
 go_wp2_with fail
 refine (number12_int _ L.length rfl ?_ _).mono ?_
 ·have:=HZ.out;omega
 rintro e w1 ⟨u,rfl,hu,hg⟩
 have F1:Hid (Own w1 w.heap.size u (numForm L.length)/\w.grownBy w1 none):=⟨hu,hg⟩
 have hsz:=hg.size
 clear hu hg
 go_wp2_with (at_builtin;refine app23 _ rfl _ _ rfl w.heap.size _ (numForm L.length) _ L rfl rfl F1.out.1 (Seg.grown HS.out F1.out.2) ?c1 ?c2 ?_)
 case c1 =>
  have:=HZ.out
  have:=numForm_len10 L.length (by omega)
  omega
 case c2=>omega
 intro v' w2 hown' hg'
 have F:Hid _:=And.intro hown' (grown_new F1.out.2 hg' (Own.lt F1.out.1))
 clear hown' hg'
 go_wp2_with fail
 go_ret
 exact ⟨_,rfl,F.out⟩
theorem seg_str {w:World}{v:Value}{L:List UInt8}(h:Seg w v L):(convert 59 9 v).run Tryz.prog w=.ok (.string ⟨L.toArray⟩) w:=by
 have hs:=h
 obtain ⟨ao,cap,rfl,h1,h2,h3,h4⟩:=h
 cases ao with
 | none =>
  have hL:L=[]:=List.eq_nil_of_length_eq_zero (by have:=h3 rfl;omega)
  subst hL
  rw [run_convert_bytes_nil w 59 5 Tryz.underlying59 Tryz.underlying5 _ _ 9 Tryz.underlying9]
  rfl
 | some ad =>
  refine run_convert_bytes_back w 59 9 5 ad cap L Tryz.underlying59 Tryz.underlying5 Tryz.underlying9 fun j hj=>?_
  exact (seg_news hs).2 j _ (by simp [BV,hj])
end Go.Proofs.YtakmlhhapegpoaaGreat.Wire
