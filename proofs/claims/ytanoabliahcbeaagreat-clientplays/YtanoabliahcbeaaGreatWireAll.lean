import Derived.Below
import Derived.Test.YtanoabliahcbeaaGreatProg
import Derived.KernelRfl
import Derived.WalkKit
import Derived.WalkSpells
import Derived.WalkLawsBesides
import Derived.Laws.AppendOwnNone
import Derived.Laws.BytesArg
import Derived.Laws.IdiomStrings
import Derived.Deep.QuietTactic
import Derived.BigQuiet
import Derived.Deep.RegionHeld3
import Derived.Deep.DrawnRows
import Derived.Maps.AppendAt
set_option maxHeartbeats 2000000
set_option maxRecDepth 100000
namespace Go.Proofs.YtanoabliahcbeaaGreat.Wire
def numDigits:Nat->Nat->List UInt8
 | 0,n=>[UInt8.ofNat n]
 | k+1,n=>if n<128 then [UInt8.ofNat n] else UInt8.ofNat (n % 128+128) :: numDigits k (n / 128)
def numForm (n:Nat):List UInt8:=numDigits n n
def scan (p acc:Nat):List UInt8->Option (Nat × Nat)
 | []=>none
 | c :: l=>if (0<p/\c.toNat=0)\/(p=9/\1<c.toNat) then none else
   if c.toNat<128 then some (acc+(c.toNat % 128)*2 ^ (7*p),p+1) else scan (p+1) (acc+(c.toNat % 128)*2 ^ (7*p)) l
theorem numDigits_enough:∀(k n:Nat),n<=k->∀m,n<=m->numDigits k n=numDigits m n
 | 0,n,h,m,_=>by
  have h0:n=0:=by omega
  subst h0
  cases m <;> simp [numDigits]
 | k+1,n,h,m,hm=>by
  cases m with
  | zero =>
   have h0:n=0:=by omega
   subst h0
   simp [numDigits]
  | succ m =>
   simp only [numDigits]
   by_cases hn:n<128
   ·rw [if_pos hn,if_pos hn]
   ·rw [if_neg hn,if_neg hn,numDigits_enough k (n / 128) (by omega) m (by omega)]
theorem numForm_small {n:Nat}(h:n<128):numForm n=[UInt8.ofNat n]:=by
 unfold numForm;cases n <;> simp [numDigits,h]
theorem numForm_big {n:Nat}(h:¬n<128):numForm n=UInt8.ofNat (n % 128+128) :: numForm (n / 128):=by
 unfold numForm
 cases n with
 | zero=>omega
 | succ n =>
  simp only [numDigits]
  rw [if_neg h,numDigits_enough n ((n+1) / 128) (by omega) ((n+1) / 128) (Nat.le_refl _)]
theorem numForm_len:∀(k n:Nat),n<2 ^ (7*k+7)->(numForm n).length<=k+1
 | 0,n,h=>by rw [numForm_small (by simpa using h)];simp
 | k+1,n,h=>by
  by_cases hn:n<128
  ·rw [numForm_small hn];simp
  ·rw [numForm_big hn]
   have e:2 ^ (7*(k+1)+7)=2 ^ (7*k+7)*128:=by rw [show 7*(k+1)+7=(7*k+7)+7 by omega,Nat.pow_add]
   have:=numForm_len k (n / 128) (by rw [Nat.div_lt_iff_lt_mul (by omega)];omega)
   simp;omega
theorem numForm_len10 (n:Nat)(h:n<2 ^ 64):(numForm n).length<=10:=numForm_len 9 n (Nat.lt_trans h (by decide))
theorem numForm_pos (n:Nat):0<(numForm n).length:=by
 by_cases hn:n<128
 ·rw [numForm_small hn];simp
 ·rw [numForm_big hn];simp
theorem scan_bound:∀(l:List UInt8) (p acc:Nat),p<=9->acc<2 ^ (7*p)->∀n k,scan p acc l=some (n,k)->n<2 ^ 64/\p<k/\k<=p+l.length/\k<=10
 | [],_,_,_,_,_,_,h=>by simp [scan] at h
 | c :: l,p,acc,hp,ha,n,k,h=>by
  rw [scan] at h
  split at h
  ·cases h
  ·rename_i hc
   have hs:(2:Nat) ^ (7*(p+1))=128*2 ^ (7*p):=by rw [show 7*(p+1)=7*p+7 by omega,Nat.pow_add];omega
   have hm:c.toNat % 128<128:=Nat.mod_lt _ (by omega)
   have hmul:(c.toNat % 128)*2 ^ (7*p)<=127*2 ^ (7*p):=Nat.mul_le_mul_right _ (by omega)
   have hnew:acc+(c.toNat % 128)*2 ^ (7*p)<2 ^ (7*(p+1)):=by omega
   split at h
   ·simp only [Option.some.injEq,Prod.mk.injEq] at h
    obtain ⟨rfl,rfl⟩:=h
    refine ⟨?_,by omega,by simp,by omega⟩
    by_cases h9:p=9
    ·subst h9
     have:c.toNat % 128<=1:=by omega
     have:(c.toNat % 128)*2 ^ (7*9)<=1*2 ^ (7*9):=Nat.mul_le_mul_right _ this
     have e:(2:Nat) ^ (7*9)=9223372036854775808:=by decide
     have e2:(2:Nat) ^ 64=18446744073709551616:=by decide
     rw [e] at *
     omega
    ·exact Nat.lt_of_lt_of_le hnew (Nat.pow_le_pow_right (by omega) (by omega))
   ·have h9:p≠9:=by omega
    have:=scan_bound l (p+1) _ (by omega) hnew n k h
    simp;omega
theorem scan_form:∀(k n p acc:Nat) (rest:List UInt8),p+k=9->n<2 ^ (7*k+1)->(0<p->0<n)->scan p acc (numForm n ++ rest)=some (acc+n*2 ^ (7*p),p+(numForm n).length)
 | 0,n,p,acc,rest,hp,hn,h0=>by
  have hn2:n<2:=by simpa using hn
  rw [numForm_small (by omega)]
  simp only [List.cons_append,List.nil_append,scan]
  have e:(UInt8.ofNat n).toNat=n:=by simp;omega
  rw [e,if_neg (by omega),if_pos (by omega),Nat.mod_eq_of_lt (by omega)];simp
 | k+1,n,p,acc,rest,hp,hn,h0=>by
  by_cases hs:n<128
  ·rw [numForm_small hs]
   simp only [List.cons_append,List.nil_append,scan]
   have e:(UInt8.ofNat n).toNat=n:=by simp;omega
   rw [e,if_neg (by omega),if_pos hs,Nat.mod_eq_of_lt hs];simp
  ·rw [numForm_big hs]
   simp only [List.cons_append,scan]
   have e:(UInt8.ofNat (n % 128+128)).toNat=n % 128+128:=by simp;omega
   rw [e,if_neg (by omega),if_neg (by omega)]
   have hlt:n / 128<2 ^ (7*k+1):=by
    rw [Nat.div_lt_iff_lt_mul (by omega)]
    have e:2 ^ (7*(k+1)+1)=2 ^ (7*k+1)*128:=by rw [show 7*(k+1)+1=(7*k+1)+7 by omega,Nat.pow_add]
    omega
   rw [scan_form k (n / 128) (p+1) _ rest (by omega) hlt (by omega)]
   have e3:(n % 128+128) % 128=n % 128:=by omega
   have e4:(2:Nat) ^ (7*(p+1))=128*2 ^ (7*p):=by rw [show 7*(p+1)=7*p+7 by omega,Nat.pow_add];omega
   rw [e3,e4]
   have e5:n % 128*2 ^ (7*p)+n / 128*(128*2 ^ (7*p))=n*2 ^ (7*p):=by
    rw [<-Nat.mul_assoc,<-Nat.add_mul];congr 1;omega
   simp only [Option.some.injEq,Prod.mk.injEq,List.length_cons]
   omega
theorem scan_num (n:Nat)(h:n<2 ^ 64)(rest:List UInt8):scan 0 0 (numForm n ++ rest)=some (n,(numForm n).length):=by
 rw [scan_form 9 n 0 0 rest rfl (by simpa using h) (by omega)];simp
theorem form_scan:∀(l:List UInt8) (p acc:Nat),p<=9->∀n k,scan p acc l=some (n,k)->∃m,n=acc+m*2 ^ (7*p)/\l.take (k-p)=numForm m/\(0<p->0<m)
 | [],_,_,_,_,_,h=>by simp [scan] at h
 | c :: l,p,acc,hp,n,k,h=>by
  rw [scan] at h
  split at h
  ·cases h
  ·rename_i hc
   split at h
   ·simp only [Option.some.injEq,Prod.mk.injEq] at h
    obtain ⟨rfl,rfl⟩:=h
    rename_i hlt
    refine ⟨c.toNat,by rw [Nat.mod_eq_of_lt hlt],?_,by omega⟩
    rw [numForm_small hlt,show p+1-p=1 by omega];simp
   ·rename_i hge
    have h9:p≠9:=by omega
    obtain ⟨m,hm,ht,hpos⟩:=form_scan l (p+1) _ (by omega) n k h
    have hpos:=hpos (by omega)
    have e4:(2:Nat) ^ (7*(p+1))=128*2 ^ (7*p):=by rw [show 7*(p+1)=7*p+7 by omega,Nat.pow_add];omega
    have hc8:c.toNat<256:=c.toNat_lt
    have hlen:p+1<k:=by
     have:=numForm_pos m
     rw [<-ht] at this;simp at this;omega
    refine ⟨c.toNat % 128+m*128,?_,?_,by omega⟩
    ·rw [hm,e4,Nat.add_mul,<-Nat.mul_assoc];omega
    ·rw [numForm_big (by omega),show (c.toNat % 128+m*128) % 128+128=c.toNat by omega,show (c.toNat % 128+m*128) / 128=m by omega,<-ht,show k-p=(k-(p+1))+1 by omega]
     simp
theorem form_scan0 (l:List UInt8)(n k:Nat)(h:scan 0 0 l=some (n,k)):l.take k=numForm n:=by
 obtain ⟨m,hm,ht,_⟩:=form_scan l 0 0 (by omega) n k h
 simp at hm ht;rw [hm,ht]
end Go.Proofs.YtanoabliahcbeaaGreat.Wire
namespace Go.Proofs.YtanoabliahcbeaaGreat.Wire
open Go.RowKit
def BV (L:List UInt8):List Value:=L.map fun u=>Value.int .u8 (u.toNat:Int)
theorem BV_append (L M:List UInt8):BV (L ++ M)=BV L ++ BV M:=by simp [BV]
theorem BV_one (L:List UInt8):∀u ∈ BV L,u.oneCell'=true:=by
 intro u hu;simp [BV] at hu;obtain ⟨x,_,rfl⟩:=hu;rfl
def Seg (w:World)(v:Value)(L:List UInt8):Prop :=
 ∃ao cap,v=.slice ao L.length cap/\L.length<=cap/\cap<=maxLen/\(ao=none->cap=0)/\∀j (hj:j<L.length),∃b off,ao=some ⟨b,off,none⟩/\w.cell? ⟨b,off+j,none⟩=some (.int .u8 (L[j].toNat:Int))
def Own (w:World)(B:Nat)(v:Value)(L:List UInt8):Prop:=w.ownsRow B 5 1 v L.length (BV L)
def RdB (w:World)(b:Nat)(o:Bool)(s:Value):Prop:=w.heap[b]? = some (.cells #[.bool o,s] 220 (0,0))
theorem grown_refl (w:World)(r:Option Nat):w.grownBy w r:=⟨rfl,rfl,rfl,Nat.le_refl _,fun _ _ _=>rfl⟩
theorem grown_weak {w w':World}(h:w.grownBy w' none)(r:Option Nat):w.grownBy w' r:=⟨h.os,h.tape,h.output,h.size,fun k hk _=>h.block k hk (by simp)⟩
theorem grown_trans {a b c:World}{r:Option Nat}(h:a.grownBy b r)(k:b.grownBy c r):a.grownBy c r :=
 ⟨k.os.trans h.os,k.tape.trans h.tape,k.output.trans h.output,Nat.le_trans h.size k.size,fun i hi hr=>(k.block i (Nat.lt_of_lt_of_le hi h.size) hr).trans (h.block i hi hr)⟩
theorem grown_new {a b c:World}{r q:Option Nat}(h:a.grownBy b r)(k:b.grownBy c q)(hq:∀x,q=some x->a.heap.size<=x):a.grownBy c r :=
 ⟨k.os.trans h.os,k.tape.trans h.tape,k.output.trans h.output,Nat.le_trans h.size k.size,fun i hi hr=>(k.block i (Nat.lt_of_lt_of_le hi h.size) (fun e=>by have:=hq i e.symm;omega)).trans (h.block i hi hr)⟩
theorem grown_drew (w:World)(r:Option Nat):w.grownBy w.drew r:=⟨rfl,rfl,rfl,Nat.le_refl _,fun _ _ _=>rfl⟩
theorem grown_setCell (w:World)(b o:Nat)(v:Value):w.grownBy (w.setCell ⟨b,o,none⟩ v) (some b) :=
 ⟨rfl,rfl,rfl,by simp [World.setCell],fun k _ hk=>heap_setCell_other w ⟨b,o,none⟩ k v (fun e=>hk (by simp [e]))⟩
theorem grown_below {w w':World}(h:w.grownBy w' none):Below w.heap.size w w':=⟨h.os,h.tape,h.output,h.size,fun k hk=>h.block k hk (by simp)⟩
theorem RdB.lt {w:World}{b:Nat}{o:Bool}{s:Value}(h:RdB w b o s):b<w.heap.size:=(Array.getElem?_eq_some_iff.1 h).1
theorem RdB.cell0 {w:World}{b:Nat}{o:Bool}{s:Value}(h:RdB w b o s):w.cell? ⟨b,0,none⟩=some (.bool o):=by
 rw [cell_of_row w b 0 _ _ _ h];rfl
theorem RdB.cell1 {w:World}{b:Nat}{o:Bool}{s:Value}(h:RdB w b o s):w.cell? ⟨b,1,none⟩=some s:=by
 rw [cell_of_row w b 1 _ _ _ h];rfl
theorem RdB.free {w:World}{b:Nat}{o:Bool}{s:Value}(h:RdB w b o s)(j:Nat):w.frozen? ⟨b,j,none⟩=false:=frozen_of_row w b j _ _ h
theorem RdB.store {w:World}{b:Nat}{o:Bool}{s:Value}(h:RdB w b o s)(t:Value):RdB (w.setCell ⟨b,1,none⟩ t) b o t:=heap_setCell_same w b 1 _ _ t h
theorem RdB.kept {w w':World}{b:Nat}{o:Bool}{s:Value}{r:Option Nat}(h:RdB w b o s)(hg:w.grownBy w' r)(hr:r≠some b):RdB w' b o s :=
 (hg.block b h.lt (fun e=>hr e.symm)).trans h
theorem Seg.len {w:World}{v:Value}{L:List UInt8}(h:Seg w v L):L.length<=9223372036854775807:=by
 obtain ⟨ao,cap,_,h1,h2,_⟩:=h
 unfold maxLen at h2;omega
theorem seg_nil (w:World):Seg w (.slice none 0 0) []:=⟨none,0,rfl,Nat.le_refl _,Nat.zero_le _,fun _=>rfl,fun j hj=>absurd hj (by simp)⟩
theorem Seg.of_cells {w w':World}{v:Value}{L:List UInt8}(h:Seg w v L)(hc:∀b j (x:Int),w.cell? ⟨b,j,none⟩=some (.int .u8 x)->w'.cell? ⟨b,j,none⟩=some (.int .u8 x)):Seg w' v L:=by
 obtain ⟨ao,cap,hv,h1,h2,h3,h4⟩:=h
 refine ⟨ao,cap,hv,h1,h2,h3,fun j hj=>?_⟩
 obtain ⟨b,off,e,hcell⟩:=h4 j hj
 exact ⟨b,off,e,hc _ _ _ hcell⟩
theorem Seg.grown {w w':World}{v:Value}{L:List UInt8}(h:Seg w v L)(hg:w.grownBy w' none):Seg w' v L :=
 h.of_cells fun _ _ _ hc=>hg.cell hc (by simp)
theorem Seg.grownR {w w':World}{v:Value}{L:List UInt8}{b:Nat}{o:Bool}{ao:Option Addr}{n c:Nat}(h:Seg w v L)(hr:RdB w b o (.slice ao n c))(hg:w.grownBy w' (some b)):Seg w' v L:=by
 refine h.of_cells fun k j x hc=>hg.cell hc ?_
 intro e
 simp at e;subst e
 rw [cell_of_row w _ _ _ _ _ hr] at hc
 match j,hc with
 | 0,hc=>simp at hc
 | 1,hc=>simp at hc
 | j+2,hc=>simp at hc
theorem Own.seg {w:World}{B:Nat}{v:Value}{L:List UInt8}(h:Own w B v L):Seg w v L:=by
 rcases h.2 with ⟨rfl,hn⟩ | ⟨g,cap,cur,rfl,hb,hg,hnc,hcm,hcs,ht⟩
 ·have:L=[]:=List.eq_nil_of_length_eq_zero hn
  subst this
  exact seg_nil w
 ·refine ⟨_,cap,rfl,hnc,hcm,by simp,fun j hj=>⟨g,0,rfl,?_⟩⟩
  have:=h.cellAt j (by omega)
  rw [Nat.zero_add,this]
  simp [BV,hj]
theorem Own.nil (w:World)(B:Nat):Own w B (.slice none 0 0) []:=World.ownsRow_nil w B 5 1
theorem Own.mono {w:World}{B B':Nat}{v:Value}{L:List UInt8}(h:Own w B v L)(hB:B'<=B):Own w B' v L:=by
 refine ⟨h.1,?_⟩
 rcases h.2 with h2 | ⟨g,cap,cur,h1,hb,h3⟩
 ·exact .inl h2
 ·exact .inr ⟨g,cap,cur,h1,by omega,h3⟩
theorem Own.grown {w w':World}{B:Nat}{v:Value}{L:List UInt8}(h:Own w B v L)(hg:w.grownBy w' none):Own w' B v L:=h.kept hg (by cases v.ownBlock <;> simp)
theorem Own.grownR {w w':World}{B:Nat}{v:Value}{L:List UInt8}{b:Nat}{o:Bool}{s:Value}(h:Own w B v L)(hr:RdB w b o s)(hg:w.grownBy w' (some b)):Own w' B v L:=by
 refine h.kept hg ?_
 rcases h.2 with ⟨rfl,_⟩ | ⟨g,cap,cur,rfl,hb,hgg,_⟩
 ·exact .inl rfl
 ·right
  intro e
  simp [Value.ownBlock] at e;subst e
  rw [hr] at hgg;simp at hgg
end Go.Proofs.YtanoabliahcbeaaGreat.Wire
namespace Go.Proofs.YtanoabliahcbeaaGreat.Wire
theorem there_nil (w:World):Calls Tryz.prog 148 #[.pointer none] w fun e w'=>e=.returned (.bool false)/\w'=w:=by
 go_enter Tryz.func148,Tryz.ntmps148
 go_wp2
 go_ret
 exact ⟨rfl,rfl⟩
theorem there_some (b:Nat)(o:Bool)(s:Value)(w:World)(hr:RdB w b o s):Calls Tryz.prog 148 #[.pointer (some ⟨b,0,none⟩)] w fun e w'=>e=.returned (.bool o)/\w'=w:=by
 have h:=hr.cell0
 go_enter Tryz.func148,Tryz.ntmps148
 go_wp2
 go_ret
 exact ⟨rfl,rfl⟩
theorem seg_take {w:World}{ao:Option Addr}{cap:Nat}{L:List UInt8}(m:Nat)(hm:m<=L.length)(h:Seg w (.slice ao L.length cap) L):Seg w (.slice ao m cap) (L.take m):=by
 obtain ⟨ao',cap',hv,h1,h2,h3,h4⟩:=h
 simp at hv;obtain ⟨rfl,rfl⟩:=hv
 refine ⟨ao,cap,by simp [hm],by simp;omega,h2,h3,fun j hj=>?_⟩
 simp at hj
 obtain ⟨b,off,e,hc⟩:=h4 j (by omega)
 exact ⟨b,off,e,by simpa using hc⟩
theorem seg_drop {w:World}{ao:Option Addr}{cap:Nat}{L:List UInt8}(m:Nat)(hm:m<=L.length)(h:Seg w (.slice ao L.length cap) L):Seg w (.slice (Option.map (fun x=>x.add m) ao) (L.length-m) (cap-m)) (L.drop m):=by
 obtain ⟨ao',cap',hv,h1,h2,h3,h4⟩:=h
 simp at hv;obtain ⟨rfl,rfl⟩:=hv
 refine ⟨Option.map (fun x=>x.add m) ao,cap-m,by simp,by simp;omega,by omega,fun h=>by simp at h;have:=h3 h;omega,fun j hj=>?_⟩
 simp at hj
 obtain ⟨b,off,e,hc⟩:=h4 (m+j) (by omega)
 refine ⟨b,off+m,?_,by rw [Nat.add_assoc];simpa using hc⟩
 rw [e];simp only [Option.map_some,Addr.add]
 by_cases hz:m=0
 ·subst hz;simp
 ·simp [hz]
theorem seg_drop_all {w:World}{ao:Option Addr}{cap:Nat}{L:List UInt8}(m:Nat)(hm:m<=L.length)(hc:cap=m)(h:Seg w (.slice ao L.length cap) L):Seg w (.slice ao (L.length-m) 0) (L.drop m):=by
 obtain ⟨ao',cap',hv,h1,h2,h3,h4⟩:=h
 simp at hv;obtain ⟨rfl,rfl⟩:=hv
 have:L.length=m:=by omega
 refine ⟨ao,0,by simp,by simp;omega,by omega,fun _=>rfl,fun j hj=>?_⟩
 simp at hj;omega
theorem pass_any (b:Nat)(o:Bool)(s:Value)(L:List UInt8)(m:Nat)(w:World)(hr:RdB w b o s)(hs:Seg w s L)(hm:m<=L.length) :
  Calls Tryz.prog 196 #[.pointer (some ⟨b,0,none⟩),.int .i64 m] w fun e w'=>∃p,e=.returned p/\Seg w p (L.take m)/\∃t,Seg w t (L.drop m)/\w'=w.setCell ⟨b,1,none⟩ t:=by
 have hs':=hs
 obtain ⟨ao,cap,rfl,h1,h2,h3,h4⟩:=hs'
 have hc1:=hr.cell1
 have hf:=hr.free 1
 have hmx:=h2
 unfold maxLen at hmx
 clear h3 h4
 go_enter Tryz.func196,Tryz.ntmps196
 go_wp2
 ·go_ret
  have hcm:cap=m:=by assumption
  subst hcm
  exact ⟨_,rfl,seg_take _ hm hs,_,seg_drop_all _ hm rfl hs,rfl⟩
 ·go_ret
  exact ⟨_,rfl,seg_take m hm hs,_,seg_drop m hm hs,rfl⟩
theorem pass_int (b:Nat)(o:Bool)(s:Value)(L:List UInt8)(mi:Int)(m:Nat)(w:World)(he:mi=m)(hr:RdB w b o s)(hs:Seg w s L)(hm:m<=L.length) :
  Calls Tryz.prog 196 #[.pointer (some ⟨b,0,none⟩),.int .i64 mi] w fun e w'=>∃p,e=.returned p/\Seg w p (L.take m)/\∃t,Seg w t (L.drop m)/\w'=w.setCell ⟨b,1,none⟩ t:=by
 subst he;exact pass_any b o s L m w hr hs hm
theorem left_any (b:Nat)(o:Bool)(s:Value)(L:List UInt8)(w:World)(hr:RdB w b o s)(hs:Seg w s L) :
  Calls Tryz.prog 208 #[.pointer (some ⟨b,0,none⟩)] w fun e w'=>e=.returned (.int .i64 L.length)/\w'=w:=by
 obtain ⟨ao,cap,rfl,h1,h2,h3,h4⟩:=hs
 have hc1:=hr.cell1
 clear h3 h4
 go_enter Tryz.func208,Tryz.ntmps208
 go_wp2
 go_ret
 exact ⟨rfl,rfl⟩
theorem end_any (b:Nat)(s:Value)(L:List UInt8)(w:World)(hr:RdB w b true s)(hs:Seg w s L) :
  Calls Tryz.prog 116 #[.pointer (some ⟨b,0,none⟩)] w fun e w'=>e=.returned (.int .i64 (if L=[] then 0 else 4))/\w'=w:=by
 obtain ⟨ao,cap,rfl,h1,h2,h3,h4⟩:=hs
 have hc1:=hr.cell1
 clear h3 h4
 by_cases hL:L=[]
 ·subst hL
  go_enter Tryz.func116,Tryz.ntmps116
  go_wp2_with (go_at_call 148;refine (there_some b true _ _ hr).mono ?_;rintro e w' ⟨rfl,rfl⟩)
  go_ret
  exact ⟨rfl,rfl⟩
 ·have hp:0<L.length:=List.length_pos_iff.2 hL
  rw [if_neg hL]
  clear hL
  go_enter Tryz.func116,Tryz.ntmps116
  go_wp2_with (go_at_call 148;refine (there_some b true _ _ hr).mono ?_;rintro e w' ⟨rfl,rfl⟩)
  go_ret
  exact ⟨rfl,rfl⟩
end Go.Proofs.YtanoabliahcbeaaGreat.Wire
namespace Go.Proofs.YtanoabliahcbeaaGreat.Wire
open Go.RowKit
theorem scan_step (L:List UInt8)(p acc:Nat)(h:p<L.length):scan p acc (L.drop p)=if (0<p/\L[p].toNat=0)\/(p=9/\1<L[p].toNat) then none else
   if L[p].toNat<128 then some (acc+(L[p].toNat % 128)*2 ^ (7*p),p+1) else scan (p+1) (acc+(L[p].toNat % 128)*2 ^ (7*p)) (L.drop (p+1)):=by
 rw [List.drop_eq_getElem_cons h,scan]
theorem digit_lt (acc p c:Nat)(hp:p<=9)(ha:acc<2 ^ (7*p))(h9:¬(p=9/\1<c)):acc+c % 128*2 ^ (7*p)<2 ^ 64/\acc+c % 128*2 ^ (7*p)<2 ^ (7*(p+1)):=by
 have hs:(2:Nat) ^ (7*(p+1))=128*2 ^ (7*p):=by rw [show 7*(p+1)=7*p+7 by omega,Nat.pow_add];omega
 have hm:c % 128<128:=Nat.mod_lt _ (by omega)
 have hmul:(c % 128)*2 ^ (7*p)<=127*2 ^ (7*p):=Nat.mul_le_mul_right _ (by omega)
 have hnew:acc+(c % 128)*2 ^ (7*p)<2 ^ (7*(p+1)):=by omega
 refine ⟨?_,hnew⟩
 by_cases e9:p=9
 ·subst e9
  have:c % 128<=1:=by omega
  have:(c % 128)*2 ^ (7*9)<=1*2 ^ (7*9):=Nat.mul_le_mul_right _ this
  have e:(2:Nat) ^ (7*9)=9223372036854775808:=by decide
  have e2:(2:Nat) ^ 64=18446744073709551616:=by decide
  rw [e] at *
  omega
 ·exact Nat.lt_of_lt_of_le hnew (Nat.pow_le_pow_right (by omega) (by omega))
theorem wrap_u64 (n:Nat)(h:n<2 ^ 64):IntKind.u64.wrap (n:Int)=n:=by
 have e:(2:Nat) ^ 64=18446744073709551616:=by decide
 simp only [IntKind.wrap,IntKind.bits,IntKind.signed]
 simp
 omega
theorem wrap_digit (acc p c:Nat)(h:acc+c % 128*2 ^ (7*p)<2 ^ 64):IntKind.u64.wrap ((acc:Int)+IntKind.u64.wrap ((c:Int) % 128*2 ^ (p*7)))=((acc+c % 128*2 ^ (7*p):Nat):Int):=by
 have e1:((c:Int) % 128*2 ^ (p*7))=((c % 128*2 ^ (7*p):Nat):Int):=by rw [Nat.mul_comm p 7];push_cast;rfl
 rw [e1,wrap_u64 _ (by omega),show ((acc:Int)+((c % 128*2 ^ (7*p):Nat):Int))=((acc+c % 128*2 ^ (7*p):Nat):Int) by push_cast;rfl,wrap_u64 _ h]
theorem wrap_nine (acc p c:Nat)(hp:p=9)(h:acc+c % 128*2 ^ (7*p)<2 ^ 64):IntKind.u64.wrap ((acc:Int)+(c:Int) % 128*9223372036854775808)=((acc+c % 128*2 ^ (7*p):Nat):Int):=by
 subst hp
 have e:(2:Nat) ^ (7*9)=9223372036854775808:=by decide
 rw [e] at *
 rw [show ((acc:Int)+(c:Int) % 128*9223372036854775808)=((acc+c % 128*9223372036854775808:Nat):Int) by omega,wrap_u64 _ h]
theorem ret_two {k l:IntKind}{a b c:Int}(h:a=b):Ending.returned (.tuple #[.int k a,.int l c])=.returned (.tuple #[.int k b,.int l c]):=by rw [h]
theorem digits_none (b:Nat)(o:Bool)(s:Value)(L:List UInt8)(w:World)(hr:RdB w b o s)(hs:Seg w s L)(hn:scan 0 0 L=none) :
  Calls Tryz.prog 192 #[.pointer (some ⟨b,0,none⟩)] w fun e w'=>e=.returned (.tuple #[.int .u64 0,.int .i64 4])/\w'=w:=by
 have hlen:=hs.len
 obtain ⟨ao,cap,rfl,h1,h2,h3,h4⟩:=hs
 have hc1:=hr.cell1
 have HN:Hid (scan 0 0 L=none):=hn
 have H4:Hid _:=h4
 clear hn h4 h3
 go_enter Tryz.func192,Tryz.ntmps192
 go_wp2
 go_step3;go_wp2;go_step3;go_wp2
 go_loop [4,12] (fun n i=>∃p acc:Nat,p<=9/\p<=L.length/\i=.int .i64 p/\n=.int .u64 acc/\Hid (scan p acc (L.drop p)=none)/\Hid (acc<2 ^ (7*p))) (fun _ i=>L.length-(intOf i).toNat)
 case atStart=>exact ⟨0,0,by omega,by omega,rfl,rfl,by simpa using HN,by simp [Hid]⟩
 case round =>
  obtain ⟨p,acc,hp9,hpl,rfl,rfl,Hs,HA⟩:=hrel
  by_cases hlt:p<L.length
  ·obtain ⟨bb,off,rfl,hcell⟩:=H4.out p hlt
   have hstep:=scan_step L p acc hlt
   obtain ⟨c,hc⟩:∃c:Nat,c=L[p].toNat:=⟨_,rfl⟩
   have hc256:c<256:=by rw [hc];exact L[p].toNat_lt
   rw [<-hc] at hcell hstep
   rw [Hs.out] at hstep
   have HST:Hid _:=hstep
   clear hstep hc
   by_cases c1:0<p/\c=0
   ·obtain ⟨c1,rfl⟩:=c1
    clear HST
    go_wp2
    first | rw [Exit.noGoto_ret] | skip
    go_ret2
    exact ⟨rfl,rfl⟩
   ·by_cases c2:p=9/\1<c
    ·obtain ⟨rfl,c2⟩:=c2
     clear HST c1
     go_wp2
     all_goals first | rw [Exit.noGoto_ret] | skip
     all_goals go_ret2
     all_goals exact ⟨rfl,rfl⟩
    ·have hst:=HST.out
     rw [if_neg (by omega)] at hst
     by_cases c3:c<128
     ·rw [if_pos c3] at hst;cases hst
     ·rw [if_neg c3] at hst
      have hd:=digit_lt acc p c hp9 HA.out c2
      have HW:Hid _:=wrap_digit acc p c hd.1
      have HD:Hid _:=hd
      have HST:Hid _:=hst
      have c0:128<=c:=by omega
      have p9:p<=8:=by omega
      clear c1 c2 c3 hst hd
      by_cases d1:0<p
      all_goals
       go_wp2_with fail
       go_round
       case rel=>exact ⟨p+1,_,by omega,by omega,by go_num,by rw [HW.out],HST.out.symm,HD.out.2⟩
       case measure=>simp [intOf];omega
  ·go_wp2
   go_ret2
   exact ⟨rfl,rfl⟩
theorem digits_some (b:Nat)(o:Bool)(s:Value)(L:List UInt8)(n k:Nat)(w:World)(hr:RdB w b o s)(hs:Seg w s L)(hn:scan 0 0 L=some (n,k)) :
  Calls Tryz.prog 192 #[.pointer (some ⟨b,0,none⟩)] w fun e w'=>e=.returned (.tuple #[.int .u64 n,.int .i64 0])/\∃t,Seg w t (L.drop k)/\w'=w.setCell ⟨b,1,none⟩ t:=by
 have hlen:=hs.len
 have hs0:=hs
 obtain ⟨ao,cap,rfl,h1,h2,h3,h4⟩:=hs
 have hc1:=hr.cell1
 have HN:Hid (scan 0 0 L=some (n,k)):=hn
 have H4:Hid _:=h4
 clear hn h4 h3
 go_enter Tryz.func192,Tryz.ntmps192
 go_wp2
 go_step3;go_wp2;go_step3;go_wp2
 go_loop [4,12] (fun m i=>∃p acc:Nat,p<=9/\p<=L.length/\i=.int .i64 p/\m=.int .u64 acc/\Hid (scan p acc (L.drop p)=some (n,k))/\Hid (acc<2 ^ (7*p))) (fun _ i=>L.length-(intOf i).toNat)
 case atStart=>exact ⟨0,0,by omega,by omega,rfl,rfl,by simpa using HN,by simp [Hid]⟩
 case round =>
  obtain ⟨p,acc,hp9,hpl,rfl,rfl,Hs,HA⟩:=hrel
  by_cases hlt:p<L.length
  ·obtain ⟨bb,off,rfl,hcell⟩:=H4.out p hlt
   have hstep:=scan_step L p acc hlt
   obtain ⟨c,hc⟩:∃c:Nat,c=L[p].toNat:=⟨_,rfl⟩
   have hc256:c<256:=by rw [hc];exact L[p].toNat_lt
   rw [<-hc] at hcell hstep
   rw [Hs.out] at hstep
   by_cases cc:(0<p/\c=0)\/(p=9/\1<c)
   ·rw [if_pos cc] at hstep;cases hstep
   ·rw [if_neg cc] at hstep
    have hd:=digit_lt acc p c hp9 HA.out (by omega)
    have HW:Hid _:=wrap_digit acc p c hd.1
    have HD:Hid _:=hd
    clear hd hc
    by_cases c3:c<128
    ·rw [if_pos c3] at hstep
     simp only [Option.some.injEq,Prod.mk.injEq] at hstep
     have e1:Hid _:=hstep.1
     have e2:Hid _:=hstep.2
     clear hstep Hs HN H4
     have k2:p+1<=L.length:=by omega
     have cases3:(p<=0)\/(0<p/\p<=8/\0<c)\/(0<p/\9<=p/\0<c/\c<=1):=by omega
     clear cc
     rcases cases3 with d | ⟨d,d2,d3⟩ | ⟨d,d2,d3,d4⟩
     all_goals
      go_wp2_with fail
      refine (pass_int b o _ L _ (p+1) _ (by omega) hr hs0 k2).mono ?_
      rintro e w' ⟨pp,rfl,_,t,ht,rfl⟩
      go_wp2_with fail
      first | rw [Exit.noGoto_ret] | skip
      go_ret2
      refine ⟨?_,t,by rw [e2.out];exact ht,rfl⟩
      rw [e1.out]
      first | exact ret_two (HW.out) | exact ret_two (wrap_nine acc p c (by omega) HD.out.1)
    ·rw [if_neg c3] at hstep
     have HST:Hid _:=hstep
     have c0:128<=c:=by omega
     have p9:p<=8:=by omega
     clear cc c3 hstep
     by_cases d1:0<p
     all_goals
      go_wp2_with fail
      go_round
      case rel=>exact ⟨p+1,_,by omega,by omega,by go_num,by rw [HW.out],HST.out.symm,HD.out.2⟩
      case measure=>simp [intOf];omega
  ·have:=Hs.out
   rw [List.drop_eq_nil_of_le (by omega)] at this
   cases this
def Rd (w:World)(b:Nat)(L:List UInt8):Prop:=∃s,RdB w b true s/\Seg w s L
theorem Rd.lt {w:World}{b:Nat}{L:List UInt8}(h:Rd w b L):b<w.heap.size:=by obtain ⟨s,h1,_⟩:=h;exact h1.lt
theorem rdb_back {w1:World}{b:Nat}{s2 t:Value}(h:RdB w1 b true s2):RdB ((w1.setCell ⟨b,0,none⟩ (.bool true)).setCell ⟨b,1,none⟩ t) b true t:=by
 have h1:=heap_setCell_same w1 b 0 _ _ (.bool true) h
 have h2:=heap_setCell_same _ b 1 _ _ t h1
 exact h2
theorem whole46_nil (f:Value)(w:World):Calls Tryz.prog 193 #[.pointer none,f] w fun e w'=>e=.returned (.tuple #[.int .u64 0,.int .i64 1])/\w'=w:=by
 go_enter Tryz.func193,Tryz.ntmps193
 go_wp2_with (go_at_call 148;refine (there_nil _).mono ?_;rintro e w' ⟨rfl,rfl⟩)
 go_ret2
 exact ⟨rfl,rfl⟩
theorem whole46_err (b:Nat)(ao:Option Addr)(n cap:Nat)(er:Int)(w:World)(hr:RdB w b true (.slice ao n cap))(her:er≠0)
  (hC:Calls Tryz.prog 192 #[.pointer (some ⟨b,0,none⟩)] (w.alloc (.cells #[.bool true,.slice ao n cap] 220)) fun e w2=>∃v,e=.returned (.tuple #[v,.int .i64 er])/\(∃s2,RdB w2 b true s2)/\(w.alloc (.cells #[.bool true,.slice ao n cap] 220)).grownBy w2 (some b)) :
  Calls Tryz.prog 193 #[.pointer (some ⟨b,0,none⟩),.func (.func 192) #[] #[]] w fun e w'=>e=.returned (.tuple #[.int .u64 0,.int .i64 er])/\RdB w' b true (.slice ao n cap)/\w.grownBy w' (some b):=by
 have hc0:=hr.cell0
 have hc1:=hr.cell1
 have HC:Hid _:=hC
 have her':(er==0)=false:=by simp [her]
 have hne:b<w.heap.size:=hr.lt
 clear hC her
 go_enter Tryz.func193,Tryz.ntmps193
 go_wp2_with fail
 refine (there_some b true _ _ hr).mono ?_
 rintro e w' ⟨rfl,he⟩
 subst he
 go_wp2_with fail
 refine Calls.mono HC.out ?_
 rintro e w2 ⟨v,rfl,⟨s2,hr2⟩,hg⟩
 have k0:w2.cell? ⟨w'.heap.size,0,none⟩=some (.bool true):=hg.cell (by simp) (by simp;omega)
 have k1:w2.cell? ⟨w'.heap.size,1,none⟩=some (.slice ao n cap):=hg.cell (by simp) (by simp;omega)
 have f0:=hr2.free 0
 have f1:=hr2.free 1
 have e0:=hr2.cell0
 have e1:=hr2.cell1
 have R:Hid _:=rdb_back (t:=.slice ao n cap) hr2
 have G:Hid _:=grown_trans (World.grownBy_alloc w' _ (some b)) (grown_trans hg (grown_trans (grown_setCell w2 b 0 (.bool true)) (grown_setCell _ b 1 (.slice ao n cap))))
 clear hr2 hg HC
 go_wp2_with fail
 go_ret2
 exact ⟨rfl,R.out,G.out⟩
theorem whole46_ok (b:Nat)(ao:Option Addr)(n cap:Nat)(w:World)(Φ:Value->World->Prop)(hr:RdB w b true (.slice ao n cap))
  (hC:Calls Tryz.prog 192 #[.pointer (some ⟨b,0,none⟩)] (w.alloc (.cells #[.bool true,.slice ao n cap] 220)) fun e w2=>∃v,e=.returned (.tuple #[v,.int .i64 0])/\Φ v w2) :
  Calls Tryz.prog 193 #[.pointer (some ⟨b,0,none⟩),.func (.func 192) #[] #[]] w fun e w'=>∃v,e=.returned (.tuple #[v,.int .i64 0])/\Φ v w':=by
 have hc0:=hr.cell0
 have hc1:=hr.cell1
 have HC:Hid _:=hC
 clear hC
 go_enter Tryz.func193,Tryz.ntmps193
 go_wp2_with fail
 refine (there_some b true _ _ hr).mono ?_
 rintro e w' ⟨rfl,he⟩
 subst he
 go_wp2_with fail
 refine Calls.mono HC.out ?_
 rintro e w2 ⟨v,rfl,hphi⟩
 have P:Hid _:=hphi
 clear hphi HC
 go_wp2_with fail
 go_ret2
 exact ⟨v,rfl,P.out⟩
theorem whole48_err (c0:Value)(b:Nat)(ao:Option Addr)(n cap:Nat)(er:Int)(w:World)(hr:RdB w b true (.slice ao n cap))(her:er≠0)
  (hC:Calls Tryz.prog 195 #[.pointer (some ⟨b,0,none⟩),c0] (w.alloc (.cells #[.bool true,.slice ao n cap] 220)) fun e w2=>∃v,e=.returned (.tuple #[v,.int .i64 er])/\(∃s2,RdB w2 b true s2)/\(w.alloc (.cells #[.bool true,.slice ao n cap] 220)).grownBy w2 (some b)) :
  Calls Tryz.prog 194 #[.pointer (some ⟨b,0,none⟩),.func (.func 195) #[] #[c0]] w fun e w'=>e=.returned (.tuple #[.slice none 0 0,.int .i64 er])/\RdB w' b true (.slice ao n cap)/\w.grownBy w' (some b):=by
 have hc0:=hr.cell0
 have hc1:=hr.cell1
 have HC:Hid _:=hC
 have her':(er==0)=false:=by simp [her]
 have hne:b<w.heap.size:=hr.lt
 clear hC her
 go_enter Tryz.func194,Tryz.ntmps194
 go_wp2_with fail
 refine (there_some b true _ _ hr).mono ?_
 rintro e w' ⟨rfl,he⟩
 subst he
 go_wp2_with fail
 refine Calls.mono HC.out ?_
 rintro e w2 ⟨v,rfl,⟨s2,hr2⟩,hg⟩
 have k0:w2.cell? ⟨w'.heap.size,0,none⟩=some (.bool true):=hg.cell (by simp) (by simp;omega)
 have k1:w2.cell? ⟨w'.heap.size,1,none⟩=some (.slice ao n cap):=hg.cell (by simp) (by simp;omega)
 have f0:=hr2.free 0
 have f1:=hr2.free 1
 have e0:=hr2.cell0
 have e1:=hr2.cell1
 have R:Hid _:=rdb_back (t:=.slice ao n cap) hr2
 have G:Hid _:=grown_trans (World.grownBy_alloc w' _ (some b)) (grown_trans hg (grown_trans (grown_setCell w2 b 0 (.bool true)) (grown_setCell _ b 1 (.slice ao n cap))))
 clear hr2 hg HC
 go_wp2_with fail
 go_ret2
 exact ⟨rfl,R.out,G.out⟩
theorem whole48_ok (c0:Value)(b:Nat)(ao:Option Addr)(n cap:Nat)(w:World)(Φ:Value->World->Prop)(hr:RdB w b true (.slice ao n cap))
  (hC:Calls Tryz.prog 195 #[.pointer (some ⟨b,0,none⟩),c0] (w.alloc (.cells #[.bool true,.slice ao n cap] 220)) fun e w2=>∃v,e=.returned (.tuple #[v,.int .i64 0])/\Φ v w2) :
  Calls Tryz.prog 194 #[.pointer (some ⟨b,0,none⟩),.func (.func 195) #[] #[c0]] w fun e w'=>∃v,e=.returned (.tuple #[v,.int .i64 0])/\Φ v w':=by
 have hc0:=hr.cell0
 have hc1:=hr.cell1
 have HC:Hid _:=hC
 clear hC
 go_enter Tryz.func194,Tryz.ntmps194
 go_wp2_with fail
 refine (there_some b true _ _ hr).mono ?_
 rintro e w' ⟨rfl,he⟩
 subst he
 go_wp2_with fail
 refine Calls.mono HC.out ?_
 rintro e w2 ⟨v,rfl,hphi⟩
 have P:Hid _:=hphi
 clear hphi HC
 go_wp2_with fail
 go_ret2
 exact ⟨v,rfl,P.out⟩
theorem whole52_err (b:Nat)(ao:Option Addr)(n cap:Nat)(er:Int)(w:World)(hr:RdB w b true (.slice ao n cap))(her:er≠0)
  (hC:Calls Tryz.prog 198 #[.pointer (some ⟨b,0,none⟩)] (w.alloc (.cells #[.bool true,.slice ao n cap] 220)) fun e w2=>∃v,e=.returned (.tuple #[v,.int .i64 er])/\(∃s2,RdB w2 b true s2)/\(w.alloc (.cells #[.bool true,.slice ao n cap] 220)).grownBy w2 (some b)) :
  Calls Tryz.prog 197 #[.pointer (some ⟨b,0,none⟩),.func (.func 198) #[] #[]] w fun e w'=>e=.returned (.tuple #[.bool false,.int .i64 er])/\RdB w' b true (.slice ao n cap)/\w.grownBy w' (some b):=by
 have hc0:=hr.cell0
 have hc1:=hr.cell1
 have HC:Hid _:=hC
 have her':(er==0)=false:=by simp [her]
 have hne:b<w.heap.size:=hr.lt
 clear hC her
 go_enter Tryz.func197,Tryz.ntmps197
 go_wp2_with fail
 refine (there_some b true _ _ hr).mono ?_
 rintro e w' ⟨rfl,he⟩
 subst he
 go_wp2_with fail
 refine Calls.mono HC.out ?_
 rintro e w2 ⟨v,rfl,⟨s2,hr2⟩,hg⟩
 have k0:w2.cell? ⟨w'.heap.size,0,none⟩=some (.bool true):=hg.cell (by simp) (by simp;omega)
 have k1:w2.cell? ⟨w'.heap.size,1,none⟩=some (.slice ao n cap):=hg.cell (by simp) (by simp;omega)
 have f0:=hr2.free 0
 have f1:=hr2.free 1
 have e0:=hr2.cell0
 have e1:=hr2.cell1
 have R:Hid _:=rdb_back (t:=.slice ao n cap) hr2
 have G:Hid _:=grown_trans (World.grownBy_alloc w' _ (some b)) (grown_trans hg (grown_trans (grown_setCell w2 b 0 (.bool true)) (grown_setCell _ b 1 (.slice ao n cap))))
 clear hr2 hg HC
 go_wp2_with fail
 go_ret2
 exact ⟨rfl,R.out,G.out⟩
theorem whole52_ok (b:Nat)(ao:Option Addr)(n cap:Nat)(w:World)(Φ:Value->World->Prop)(hr:RdB w b true (.slice ao n cap))
  (hC:Calls Tryz.prog 198 #[.pointer (some ⟨b,0,none⟩)] (w.alloc (.cells #[.bool true,.slice ao n cap] 220)) fun e w2=>∃v,e=.returned (.tuple #[v,.int .i64 0])/\Φ v w2) :
  Calls Tryz.prog 197 #[.pointer (some ⟨b,0,none⟩),.func (.func 198) #[] #[]] w fun e w'=>∃v,e=.returned (.tuple #[v,.int .i64 0])/\Φ v w':=by
 have hc0:=hr.cell0
 have hc1:=hr.cell1
 have HC:Hid _:=hC
 clear hC
 go_enter Tryz.func197,Tryz.ntmps197
 go_wp2_with fail
 refine (there_some b true _ _ hr).mono ?_
 rintro e w' ⟨rfl,he⟩
 subst he
 go_wp2_with fail
 refine Calls.mono HC.out ?_
 rintro e w2 ⟨v,rfl,hphi⟩
 have P:Hid _:=hphi
 clear hphi HC
 go_wp2_with fail
 go_ret2
 exact ⟨v,rfl,P.out⟩
theorem Tryz.info5:(Tryz.prog.info? 5).map (fun i=>(i.zero,i.size,i.bytes))=some (some (.int .u8 0),1,1):=by kernel_rfl
theorem eql23:∀(w:World) (a:Option Addr) (n c n' c':Nat),(binOp .eql 41 (.slice a n c) (.slice none n' c')).run Tryz.prog w=.ok (.bool a.isNone) w:=fun w a n c n' c'=>Lib.run_eql_slice_nil w 41 5 a n c n' c' Tryz.underlying41
theorem seg_news {w:World}{ad:Addr}{n cap:Nat}{L:List UInt8}(h:Seg w (.slice (some ad) n cap) L):n=L.length/\∀j u,(BV L)[j]? = some u->w.cell? (ad.add j)=some u:=by
 obtain ⟨ao,cap',hv,h1,h2,h3,h4⟩:=h
 simp at hv;obtain ⟨rfl,rfl,rfl⟩:=hv
 refine ⟨rfl,fun j u hj=>?_⟩
 have hjl:j<L.length:=by
  have:=(List.getElem?_eq_some_iff.1 hj).1
  simpa [BV] using this
 obtain ⟨b,off,e,hc⟩:=h4 j hjl
 simp at e;subst e
 have e2:(⟨b,off,none⟩:Addr).add j=⟨b,off+j,none⟩:=by
  unfold Addr.add;by_cases hz:j=0
  ·subst hz;simp
  ·simp [hz]
 rw [e2,hc]
 simp [BV,hjl] at hj
 rw [hj]
theorem clone_any (v:Value)(L:List UInt8)(w:World)(hs:Seg w v L)(hL:L.length<=140737488355328) :
  Calls Tryz.prog 107 #[v] w fun e w'=>∃u,e=.returned u/\Own w' w.heap.size u L/\w.grownBy w' none:=by
 have hlen:=hs.len
 obtain ⟨ao,cap,hsv⟩:∃ao cap,v=.slice ao L.length cap:=by obtain ⟨ao,cap,h,_⟩:=hs;exact ⟨ao,cap,h⟩
 subst hsv
 cases ao with
 | none =>
  have hL0:L=[]:=by
   obtain ⟨ao',cap',hv,h1,_,h3,_⟩:=hs
   simp at hv
   have:=h3 hv.1.symm
   exact List.eq_nil_of_length_eq_zero (by omega)
  subst hL0
  clear hL hlen hs
  have q23:=eql23
  go_enter Tryz.func107,Tryz.ntmps107
  go_wp2
  go_ret
  exact ⟨_,rfl,Own.nil _ _,grown_refl _ _⟩
 | some ad =>
  obtain ⟨_,hnews⟩:=seg_news hs
  obtain ⟨i0,hi,hz0,hz1,hz2⟩:=info_parts Tryz.info5
  have HN:Hid _:=hnews
  have HL:Hid _:=hL
  have HS:Hid _:=hs
  clear hnews hL hs
  have q23:=eql23
  go_enter Tryz.func107,Tryz.ntmps107
  go_wp2_with (at_builtin;refine wpList_append_own _ rfl _ _ 41 rfl w.heap.size 5 i0 (.int .u8 0) 1 1 Tryz.underlying41 hi hz0 hz1 hz2 rfl (by decide) _ _ _ rfl (World.ownsRow_made (base:=w.heap.size) (e:=5) (size:=1) w #[] 0 (Nat.le_refl _) (Nat.zero_le _) rfl) ad L.length cap (BV L) rfl ?c0 ?c1 ?c2 ?c3 ?c4 ?c5 ?_)
  case c0=>simp [BV]
  case c1=>exact fun j u hj=>(World.grownBy_alloc w _ none).cell (HN.out j u hj) (by simp)
  case c2=>exact BV_one L
  case c3=>have:=HL.out;unfold maxLen;omega
  case c4=>have:=HL.out;omega
  intro v' w1 hown hg _
  have F:Hid _:=And.intro hown hg
  clear hown hg
  go_wp2_with fail
  go_ret
  obtain ⟨hown,hg⟩:=F.out
  refine ⟨_,rfl,?_,?_⟩
  ·simpa [Own] using hown
  ·exact grown_new (World.grownBy_alloc w _ none) hg (by intro x hx;simp [Value.ownBlock] at hx;omega)
theorem app23 {ops:Array Oper}{rest:List Oper}{o:Oper}{a:Act}{Q:Exit->Act->World->Prop}(w:World)(hgd:o.guard=none)(s x:Operand)
  (ho:o.op=.call { callee:=.builtin .append,args:=#[s,x],argTypes:=#[41,41] })
  (B:Nat) (v:Value) (L:List UInt8) (u:Value) (M:List UInt8) (hs:a.eval s=v) (hx:a.eval x=u) (hown:Own w B v L) (hseg:Seg w u M) (hb:L.length+M.length<=140737488355328) (hB:B<=w.heap.size)
  (h:∀v' w',Own w' B v' (L ++ M)->w.grownBy w' v.ownBlock->wpList Tryz.prog ops Q rest (a.put o.dst v') w'):wpList Tryz.prog ops Q (o :: rest) a w:=by
 obtain ⟨i0,hi,hz0,hz1,hz2⟩:=info_parts Tryz.info5
 have hsg:=hseg
 obtain ⟨ao,cap,rfl,h1,h2,h3,h4⟩:=hsg
 cases ao with
 | none =>
  have hM0:M=[]:=List.eq_nil_of_length_eq_zero (by have:=h3 rfl;omega)
  have hc0:cap=0:=h3 rfl
  subst hM0;subst hc0
  refine wpList_append_own_none hgd s x 41 ho B 5 i0 1 Tryz.underlying41 hi v _ _ hs hown hx ?_
  exact h v w (by simpa using hown) (grown_refl _ _)
 | some ad =>
  obtain ⟨_,hnews⟩:=seg_news hseg
  refine wpList_append_own w hgd s x 41 ho B 5 i0 (.int .u8 0) 1 1 Tryz.underlying41 hi hz0 hz1 hz2 rfl (by decide) v L.length (BV L) hs hown ad M.length cap (BV M) hx (by simp [BV]) hnews (BV_one M) (by unfold maxLen;omega) (by omega) hB ?_
  intro v' w' h1 h2 _
  exact h v' w' (by unfold Own;rw [BV_append,List.length_append];exact h1) h2
theorem Own.alloc {w:World}{B:Nat}{v:Value}{L:List UInt8}(h:Own w B v L)(o:Obj):Own (w.alloc o) B v L:=World.ownsRow.alloc h o
theorem seg_one (w:World)(x:Int)(c:UInt8)(hx:x=(c.toNat:Int)):Seg (w.alloc (.cells #[.int .u8 x] 5)) (.slice (some ⟨w.heap.size,0,none⟩) 1 1) [c]:=by
 subst hx
 refine ⟨_,1,rfl,Nat.le_refl _,by unfold maxLen;omega,by simp,fun j hj=>⟨w.heap.size,0,rfl,?_⟩⟩
 have:j=0:=by simpa using hj
 subst this
 simp
theorem Own.lt {w:World}{B:Nat}{v:Value}{L:List UInt8}(h:Own w B v L):∀k,v.ownBlock=some k->B<=k:=fun k hk=>(World.ownsRow.lt h k hk).1
theorem number9 (n:Nat)(hn:n<2 ^ 64)(w:World) :
  Calls Tryz.prog 100 #[.int .u64 n] w fun e w'=>∃u,e=.returned u/\Own w' w.heap.size u (numForm n)/\w.grownBy w' none:=by
 have HN:Hid (n<2 ^ 64):=hn
 clear hn
 go_enter Tryz.func100,Tryz.ntmps100
 go_wp2
 go_loopw [0,3] (fun x v wr=>∃(m:Nat) (P:List UInt8),x=.int .u64 m/\Own wr w.heap.size v P/\Hid (P ++ numForm m=numForm n)/\w.grownBy wr none/\Hid (m<2 ^ 64)) (fun x _ _=>(intOf x).toNat)
 case atStart=>exact ⟨n,[],rfl,Own.nil _ _,rfl,grown_refl _ _,HN⟩
 case round =>
  obtain ⟨m,P,rfl,hown,HP,hg,HM⟩:=hrel
  have hPl:P.length<=10:=by
   have h1:=numForm_len10 n HN.out
   rw [<-HP.out] at h1;simp at h1;omega
  have hsz:=hg.size
  by_cases hm:m<128
  ·go_wp2_with (at_builtin;refine app23 _ rfl _ _ rfl w.heap.size _ P _ [UInt8.ofNat m] rfl rfl (hown.alloc _) (seg_one _ _ _ ?c0) ?c1 ?c2 ?_)
   case c0=>simp;omega
   case c1=>simp;omega
   case c2=>simp;omega
   intro v' w1 hown' hg'
   have F:Hid _:=And.intro hown' (grown_new (grown_trans hg (World.grownBy_alloc wr _ none)) hg' hown.lt)
   clear hown' hg' hg hown
   go_wp2_with fail
   go_ret
   obtain ⟨h1,h2⟩:=F.out
   refine ⟨_,rfl,?_,h2⟩
   rw [<-HP.out,numForm_small hm]
   exact h1
  ·have hm64:m<=18446744073709551615:=by have:=HM.out;omega
   obtain ⟨c,hc⟩:∃c:UInt8,c=UInt8.ofNat (m % 128+128):=⟨_,rfl⟩
   have HC:Hid _:=hc
   clear hc
   go_wp2_with (at_builtin;refine app23 _ rfl _ _ rfl w.heap.size _ P _ [c] rfl rfl (hown.alloc _) (seg_one _ _ _ ?d0) ?d1 ?d2 ?_)
   case d0=>rw [HC.out];simp;omega
   case d1=>simp;omega
   case d2=>simp;omega
   intro v' w1 hown' hg'
   have F:Hid _:=And.intro hown' (grown_new (grown_trans hg (World.grownBy_alloc wr _ none)) hg' hown.lt)
   clear hown' hg' hg hown
   go_wp2_with fail
   obtain ⟨h1,h2⟩:=F.out
   have h3:m / 128<2 ^ 64:=Nat.lt_of_le_of_lt (Nat.div_le_self _ _) HM.out
   go_roundw
   case rel=>exact ⟨m / 128,P ++ [c],by go_num,h1,by have:=HP.out;rw [numForm_big hm,<-HC.out] at this;simpa [Hid] using this,h2,h3⟩
   case measure=>simp [intOf];omega
theorem number12 (n:Nat)(hn:n<2 ^ 64)(w:World) :
  Calls Tryz.prog 87 #[.int .u64 n] w fun e w'=>∃u,e=.returned u/\Own w' w.heap.size u (numForm n)/\w.grownBy w' none:=by
 have HN:Hid (n<2 ^ 64):=hn
 clear hn
 go_enter Tryz.func87,Tryz.ntmps87
 go_wp2
 go_loopw [0,3] (fun x v wr=>∃(m:Nat) (P:List UInt8),x=.int .u64 m/\Own wr w.heap.size v P/\Hid (P ++ numForm m=numForm n)/\w.grownBy wr none/\Hid (m<2 ^ 64)) (fun x _ _=>(intOf x).toNat)
 case atStart=>exact ⟨n,[],rfl,Own.nil _ _,rfl,grown_refl _ _,HN⟩
 case round =>
  obtain ⟨m,P,rfl,hown,HP,hg,HM⟩:=hrel
  have hPl:P.length<=10:=by
   have h1:=numForm_len10 n HN.out
   rw [<-HP.out] at h1;simp at h1;omega
  have hsz:=hg.size
  by_cases hm:m<128
  ·go_wp2_with (at_builtin;refine app23 _ rfl _ _ rfl w.heap.size _ P _ [UInt8.ofNat m] rfl rfl (hown.alloc _) (seg_one _ _ _ ?c0) ?c1 ?c2 ?_)
   case c0=>simp;omega
   case c1=>simp;omega
   case c2=>simp;omega
   intro v' w1 hown' hg'
   have F:Hid _:=And.intro hown' (grown_new (grown_trans hg (World.grownBy_alloc wr _ none)) hg' hown.lt)
   clear hown' hg' hg hown
   go_wp2_with fail
   go_ret
   obtain ⟨h1,h2⟩:=F.out
   refine ⟨_,rfl,?_,h2⟩
   rw [<-HP.out,numForm_small hm]
   exact h1
  ·have hm64:m<=18446744073709551615:=by have:=HM.out;omega
   obtain ⟨c,hc⟩:∃c:UInt8,c=UInt8.ofNat (m % 128+128):=⟨_,rfl⟩
   have HC:Hid _:=hc
   clear hc
   go_wp2_with (at_builtin;refine app23 _ rfl _ _ rfl w.heap.size _ P _ [c] rfl rfl (hown.alloc _) (seg_one _ _ _ ?d0) ?d1 ?d2 ?_)
   case d0=>rw [HC.out];simp;omega
   case d1=>simp;omega
   case d2=>simp;omega
   intro v' w1 hown' hg'
   have F:Hid _:=And.intro hown' (grown_new (grown_trans hg (World.grownBy_alloc wr _ none)) hg' hown.lt)
   clear hown' hg' hg hown
   go_wp2_with fail
   obtain ⟨h1,h2⟩:=F.out
   have h3:m / 128<2 ^ 64:=Nat.lt_of_le_of_lt (Nat.div_le_self _ _) HM.out
   go_roundw
   case rel=>exact ⟨m / 128,P ++ [c],by go_num,h1,by have:=HP.out;rw [numForm_big hm,<-HC.out] at this;simpa [Hid] using this,h2,h3⟩
   case measure=>simp [intOf];omega
def rdNum (L:List UInt8):Nat × Int × List UInt8:=match scan 0 0 L with
 | none=>(0,4,L)
 | some (n,k)=>(n,0,L.drop k)
theorem rdNum_none {L:List UInt8}(h:scan 0 0 L=none):rdNum L=(0,4,L):=by simp [rdNum,h]
theorem rdNum_some {L:List UInt8}{n k:Nat}(h:scan 0 0 L=some (n,k)):rdNum L=(n,0,L.drop k):=by simp [rdNum,h]
theorem rdNum_lt (L:List UInt8):(rdNum L).1<2 ^ 64:=by
 cases h:scan 0 0 L with
 | none=>rw [rdNum_none h];show 0<2 ^ 64;decide
 | some x=>obtain ⟨n,k⟩:=x;rw [rdNum_some h];exact (scan_bound L 0 0 (by omega) (by simp) n k h).1
def unfoldZ (n:Nat):Int:=if n % 2=1 then -((n / 2:Nat):Int)-1 else ((n / 2:Nat):Int)
theorem rdb_alloc {w:World}{b:Nat}{o:Bool}{s:Value}(h:RdB w b o s)(x:Obj):RdB (w.alloc x) b o s:=h.kept (World.grownBy_alloc w x none) (by simp)
theorem seg_alloc {w:World}{v:Value}{L:List UInt8}(h:Seg w v L)(x:Obj):Seg (w.alloc x) v L:=h.grown (World.grownBy_alloc w x none)
theorem Seg.shape {w:World}{v:Value}{L:List UInt8}(h:Seg w v L):∃ao cap,v=.slice ao L.length cap:=by obtain ⟨ao,cap,h,_⟩:=h;exact ⟨ao,cap,h⟩
theorem number25_nil (w:World):Calls Tryz.prog 176 #[.pointer none] w fun e w'=>e=.returned (.tuple #[.int .u64 0,.int .i64 1])/\w'=w:=by
 go_enter Tryz.func176,Tryz.ntmps176
 go_wp2_with fail
 refine (whole46_nil _ _).mono ?_
 rintro e w' ⟨rfl,rfl⟩
 go_wp2_with fail
 go_ret2
 exact ⟨rfl,rfl⟩
def rdFlag (L:List UInt8):Bool × Int × List UInt8:=match L with
 | []=>(false,4,[])
 | c :: l=>if 1<c.toNat then (false,4,c :: l) else (c.toNat==1,0,l)
theorem bit53_bad (b:Nat)(o:Bool)(s:Value)(L:List UInt8)(w:World)(hr:RdB w b o s)(hs:Seg w s L)(h:(rdFlag L).2.1=4) :
  Calls Tryz.prog 198 #[.pointer (some ⟨b,0,none⟩)] w fun e w'=>e=.returned (.tuple #[.bool false,.int .i64 4])/\w'=w:=by
 obtain ⟨ao,cap,rfl,h1,h2,h3,h4⟩:=hs
 have hc1:=hr.cell1
 cases L with
 | nil =>
  clear h4 h3 h2 h1 h hr
  go_enter Tryz.func198,Tryz.ntmps198
  go_wp2_with fail
  go_ret2
  exact ⟨rfl,rfl⟩
 | cons c l =>
  obtain ⟨bb,off,rfl,hc⟩:=h4 0 (by simp)
  have hc:w.cell? ⟨bb,off,none⟩=some (.int .u8 (c.toNat:Int)):=by simpa using hc
  have hlen:0<(c :: l).length:=by simp
  obtain ⟨n,hn⟩:∃n,(c :: l).length=n:=⟨_,rfl⟩
  rw [hn] at hc1 hlen
  have hbig:1<c.toNat:=by
   simp [rdFlag] at h
   by_cases hx:1<c.toNat
   ·exact hx
   ·simp [hx] at h
  obtain ⟨x,hx⟩:∃x,c.toNat=x:=⟨_,rfl⟩
  rw [hx] at hc hbig
  clear h4 h3 h2 h1 h hr hn hx
  go_enter Tryz.func198,Tryz.ntmps198
  go_wp2_with fail
  go_ret2
  exact ⟨rfl,rfl⟩
theorem seg_one_cell {w:World}{v:Value}{c:UInt8}(h:Seg w v [c]):∃b off cap,v=.slice (some ⟨b,off,none⟩) 1 cap/\w.cell? ⟨b,off,none⟩=some (.int .u8 (c.toNat:Int)):=by
 obtain ⟨ao,cap,rfl,h1,h2,h3,h4⟩:=h
 obtain ⟨bb,off,rfl,hc⟩:=h4 0 (by simp)
 exact ⟨bb,off,cap,rfl,by simpa using hc⟩
theorem ret_flag {a b:Bool}{c:Int}(h:a=b):Ending.returned (.tuple #[.bool a,.int .i64 c])=.returned (.tuple #[.bool b,.int .i64 c]):=by rw [h]
def rdCount (L:List UInt8)(most:Int):Nat × Int × List UInt8 :=
 if most<0 then (0,2,L) else match scan 0 0 L with
  | none=>(0,4,L)
  | some (n,k)=>if most<(n:Int) then (0,3,L.drop k) else (n,0,L.drop k)
def rdBytes (L:List UInt8)(most:Int):List UInt8 × Int × List UInt8 :=
 if (rdCount L most).2.1≠0 then ([],(rdCount L most).2.1,L) else
  if (rdCount L most).2.2.length<(rdCount L most).1 then ([],4,L) else
   ((rdCount L most).2.2.take (rdCount L most).1,0,(rdCount L most).2.2.drop (rdCount L most).1)
theorem count50_neg (r:Value)(most:Int)(w:World)(h:most<0):Calls Tryz.prog 173 #[r,.int .i64 most] w fun e w'=>e=.returned (.tuple #[.int .u64 0,.int .i64 2])/\w'=w:=by
 go_enter Tryz.func173,Tryz.ntmps173
 go_wp2_with fail
 go_ret2
 exact ⟨rfl,rfl⟩
theorem count50_none (b:Nat)(o:Bool)(s:Value)(L:List UInt8)(most:Int)(w:World)(hr:RdB w b o s)(hs:Seg w s L)(h0:0<=most)(hn:scan 0 0 L=none) :
  Calls Tryz.prog 173 #[.pointer (some ⟨b,0,none⟩),.int .i64 most] w fun e w'=>e=.returned (.tuple #[.int .u64 0,.int .i64 4])/\w'=w:=by
 have HC:Hid _:=digits_none b o s L w hr hs hn
 clear hr hs hn
 go_enter Tryz.func173,Tryz.ntmps173
 go_wp2_with fail
 refine Calls.mono HC.out ?_
 rintro e w' ⟨rfl,rfl⟩
 go_wp2_with fail
 go_ret2
 exact ⟨rfl,rfl⟩
theorem count50_some (b:Nat)(o:Bool)(s:Value)(L:List UInt8)(n k:Nat)(most:Int)(w:World)(hr:RdB w b o s)(hs:Seg w s L)(h0:0<=most)(hm:most<=9223372036854775807)(hn:scan 0 0 L=some (n,k)) :
  Calls Tryz.prog 173 #[.pointer (some ⟨b,0,none⟩),.int .i64 most] w fun e w'=>e=.returned (.tuple #[.int .u64 (rdCount L most).1,.int .i64 (rdCount L most).2.1])/\∃t,Seg w t (L.drop k)/\w'=w.setCell ⟨b,1,none⟩ t:=by
 have HC:Hid _:=digits_some b o s L n k w hr hs hn
 have hb:=(scan_bound L 0 0 (by omega) (by simp) n k hn).1
 have hn64:n<=18446744073709551615:=by omega
 by_cases hlt:most<(n:Int)
 ·have e1:rdCount L most=(0,3,L.drop k):=by simp [rdCount,hn,hlt,show ¬most<0 by omega]
  rw [e1]
  clear hr hs hn hb e1
  go_enter Tryz.func173,Tryz.ntmps173
  go_wp2_with fail
  refine Calls.mono HC.out ?_
  rintro e w' ⟨rfl,h1⟩
  have F:Hid _:=h1
  clear h1 HC
  go_wp2_with fail
  go_ret2
  exact ⟨rfl,F.out⟩
 ·have e1:rdCount L most=(n,0,L.drop k):=by simp [rdCount,hn,hlt,show ¬most<0 by omega]
  rw [e1]
  clear hr hs hn hb e1
  go_enter Tryz.func173,Tryz.ntmps173
  go_wp2_with fail
  refine Calls.mono HC.out ?_
  rintro e w' ⟨rfl,h1⟩
  have F:Hid _:=h1
  clear h1 HC
  go_wp2_with fail
  go_ret2
  exact ⟨rfl,F.out⟩
theorem rdBytes_neg {L:List UInt8}{most:Int}(h:most<0):rdBytes L most=([],2,L):=by simp [rdBytes,rdCount,h]
theorem rdBytes_none {L:List UInt8}{most:Int}(h:0<=most)(hn:scan 0 0 L=none):rdBytes L most=([],4,L):=by simp [rdBytes,rdCount,show ¬most<0 by omega,hn]
theorem rdBytes_long {L:List UInt8}{most:Int}{n k:Nat}(h:0<=most)(hn:scan 0 0 L=some (n,k))(hl:most<(n:Int)):rdBytes L most=([],3,L):=by simp [rdBytes,rdCount,show ¬most<0 by omega,hn,hl]
theorem rdBytes_few {L:List UInt8}{most:Int}{n k:Nat}(h:0<=most)(hn:scan 0 0 L=some (n,k))(hl:¬most<(n:Int))(hf:(L.drop k).length<n):rdBytes L most=([],4,L):=by
 unfold rdBytes rdCount;rw [if_neg (show ¬most<0 by omega),hn];simp only [hl,if_false];rw [if_neg (by simp),if_pos hf]
theorem rdBytes_ok {L:List UInt8}{most:Int}{n k:Nat}(h:0<=most)(hn:scan 0 0 L=some (n,k))(hl:¬most<(n:Int))(hf:¬(L.drop k).length<n):rdBytes L most=((L.drop k).take n,0,(L.drop k).drop n):=by
 unfold rdBytes rdCount;rw [if_neg (show ¬most<0 by omega),hn];simp only [hl,if_false];rw [if_neg (by simp),if_neg hf]
theorem rdCount_long {L:List UInt8}{most:Int}{n k:Nat}(h:0<=most)(hn:scan 0 0 L=some (n,k))(hl:most<(n:Int)):rdCount L most=(0,3,L.drop k):=by simp [rdCount,show ¬most<0 by omega,hn,hl]
theorem rdCount_ok {L:List UInt8}{most:Int}{n k:Nat}(h:0<=most)(hn:scan 0 0 L=some (n,k))(hl:¬most<(n:Int)):rdCount L most=(n,0,L.drop k):=by simp [rdCount,show ¬most<0 by omega,hn,hl]
def ErrPost (b:Nat)(er:Int)(w:World)(e:Ending)(w':World):Prop:=∃v,e=.returned (.tuple #[v,.int .i64 er])/\(∃s2,RdB w' b true s2)/\w.grownBy w' (some b)
theorem bytes49_neg (b bx:Nat)(s:Value)(most:Int)(w:World)(hr:RdB w b true s)(hbx:w.cell? ⟨bx,0,none⟩=some (.int .i64 most))(h:most<0) :
  Calls Tryz.prog 195 #[.pointer (some ⟨b,0,none⟩),.pointer (some ⟨bx,0,none⟩)] w (ErrPost b 2 w):=by
 have F:Hid (∃s2,RdB w b true s2):=⟨_,hr⟩
 clear hr
 go_enter Tryz.func195,Tryz.ntmps195
 go_wp2_with fail
 refine (count50_neg _ most _ h).mono ?_
 rintro e w' ⟨rfl,he⟩
 subst he
 go_wp2_with fail
 go_ret2
 exact ⟨_,rfl,F.out,grown_refl _ _⟩
theorem bytes49_none (b bx:Nat)(s:Value)(L:List UInt8)(most:Int)(w:World)(hr:RdB w b true s)(hs:Seg w s L)(hbx:w.cell? ⟨bx,0,none⟩=some (.int .i64 most))(h:0<=most)(hn:scan 0 0 L=none) :
  Calls Tryz.prog 195 #[.pointer (some ⟨b,0,none⟩),.pointer (some ⟨bx,0,none⟩)] w (ErrPost b 4 w):=by
 have F:Hid (∃s2,RdB w b true s2):=⟨_,hr⟩
 have HC:Hid _:=count50_none b true s L most w hr hs h hn
 clear hr hs hn
 go_enter Tryz.func195,Tryz.ntmps195
 go_wp2_with fail
 refine Calls.mono HC.out ?_
 rintro e w' ⟨rfl,he⟩
 subst he
 go_wp2_with fail
 go_ret2
 exact ⟨_,rfl,F.out,grown_refl _ _⟩
theorem bytes49_long (b bx:Nat)(s:Value)(L:List UInt8)(n k:Nat)(most:Int)(w:World)(hr:RdB w b true s)(hs:Seg w s L)(hbx:w.cell? ⟨bx,0,none⟩=some (.int .i64 most))(h:0<=most)(hm:most<=9223372036854775807)(hn:scan 0 0 L=some (n,k))(hl:most<(n:Int)) :
  Calls Tryz.prog 195 #[.pointer (some ⟨b,0,none⟩),.pointer (some ⟨bx,0,none⟩)] w (ErrPost b 3 w):=by
 have HR:Hid _:=hr
 have HC:Hid _:=count50_some b true s L n k most w hr hs h hm hn
 rw [rdCount_long h hn hl] at HC
 clear hr hs hn hl
 go_enter Tryz.func195,Tryz.ntmps195
 go_wp2_with fail
 refine Calls.mono HC.out ?_
 rintro e w' ⟨rfl,t,ht,hw⟩
 have F:Hid ((∃s2,RdB w' b true s2)/\w.grownBy w' (some b)):=by
  subst hw;exact ⟨⟨_,RdB.store HR.out t⟩,grown_setCell _ _ _ _⟩
 clear ht hw HC
 go_wp2_with fail
 go_ret2
 exact ⟨_,rfl,F.out⟩
theorem bytes49_few (b bx:Nat)(s:Value)(L:List UInt8)(n k:Nat)(most:Int)(w:World)(hr:RdB w b true s)(hs:Seg w s L)(hbx:w.cell? ⟨bx,0,none⟩=some (.int .i64 most))(h:0<=most)(hm:most<=9223372036854775807)(hn:scan 0 0 L=some (n,k))(hl:¬most<(n:Int))(hf:(L.drop k).length<n) :
  Calls Tryz.prog 195 #[.pointer (some ⟨b,0,none⟩),.pointer (some ⟨bx,0,none⟩)] w (ErrPost b 4 w):=by
 have HR:Hid _:=hr
 have HC:Hid _:=count50_some b true s L n k most w hr hs h hm hn
 rw [rdCount_ok h hn hl] at HC
 have HL:=hs.len
 have hd:(L.drop k).length<=L.length:=by simp
 obtain ⟨M,hM⟩:∃M,L.drop k=M:=⟨_,rfl⟩
 rw [hM] at HC hf hd
 clear hr hs hn hM
 go_enter Tryz.func195,Tryz.ntmps195
 go_wp2_with fail
 refine Calls.mono HC.out ?_
 rintro e w' ⟨rfl,t,ht,hw⟩
 obtain ⟨ao,cap,rfl⟩:=ht.shape
 have hr1:RdB w' b true (.slice ao M.length cap):=by subst hw;exact RdB.store HR.out _
 have hc1:=hr1.cell1
 have F:Hid ((∃s2,RdB w' b true s2)/\w.grownBy w' (some b)):=by
  subst hw;exact ⟨⟨_,RdB.store HR.out _⟩,grown_setCell _ _ _ _⟩
 clear ht hw HC hr1
 go_wp2_with fail
 go_ret2
 exact ⟨_,rfl,F.out⟩
def FormPost (L:List UInt8)(w:World)(e:Ending)(w':World):Prop:=∃u,e=.returned u/\Own w' w.heap.size u L/\w.grownBy w' none
def foldZ (n:Int):Nat:=if n<0 then (-2*n-1).toNat else (2*n).toNat
theorem number9_int (x:Int)(n:Nat)(hx:x=n)(hn:n<2 ^ 64)(w:World):Calls Tryz.prog 100 #[.int .u64 x] w (FormPost (numForm n) w):=by subst hx;exact number9 n hn w
theorem number12_int (x:Int)(n:Nat)(hx:x=n)(hn:n<2 ^ 64)(w:World):Calls Tryz.prog 87 #[.int .u64 x] w (FormPost (numForm n) w):=by subst hx;exact number12 n hn w
theorem foldZ_lt (n:Int)(h1:-9223372036854775808<=n)(h2:n<=9223372036854775807):foldZ n<2 ^ 64:=by
 unfold foldZ;split <;> omega
theorem unfold_fold (n:Int):unfoldZ (foldZ n)=n:=by
 unfold unfoldZ foldZ;split <;> split <;> omega
def flagForm (is:Bool):List UInt8:=if is then [1] else [0]
theorem own_lit (w:World)(x:Int)(c:UInt8)(hx:x=(c.toNat:Int)):Own (w.alloc (.cells #[.int .u8 x] 5)) w.heap.size (.slice (some ⟨w.heap.size,0,none⟩) 1 1) [c]:=by
 subst hx
 exact World.ownsRow_lit (base:=w.heap.size) (e:=5) (size:=1) w #[.int .u8 (c.toNat:Int)] 1 (Nat.le_refl _) (by unfold maxLen;omega) rfl
theorem flag15 (is:Bool)(w:World):Calls Tryz.prog 146 #[.bool is] w (FormPost (flagForm is) w):=by
 cases is
 ·go_enter Tryz.func146,Tryz.ntmps146
  go_wp2_with fail
  go_ret
  exact ⟨_,rfl,own_lit w 0 0 rfl,World.grownBy_alloc _ _ _⟩
 ·go_enter Tryz.func146,Tryz.ntmps146
  go_wp2_with fail
  go_ret
  exact ⟨_,rfl,own_lit w 1 1 rfl,World.grownBy_alloc _ _ _⟩
theorem flag16 (is:Bool)(w:World):Calls Tryz.prog 124 #[.bool is] w (FormPost (flagForm is) w):=by
 cases is
 ·go_enter Tryz.func124,Tryz.ntmps124
  go_wp2_with fail
  go_ret
  exact ⟨_,rfl,own_lit w 0 0 rfl,World.grownBy_alloc _ _ _⟩
 ·go_enter Tryz.func124,Tryz.ntmps124
  go_wp2_with fail
  go_ret
  exact ⟨_,rfl,own_lit w 1 1 rfl,World.grownBy_alloc _ _ _⟩
def Segs (w:World)(v:Value)(Ls:List (List UInt8)):Prop :=
 ∃ao cap,v=.slice ao Ls.length cap/\Ls.length<=9223372036854775807/\∀j (hj:j<Ls.length),∃b off x,ao=some ⟨b,off,none⟩/\w.cell? ⟨b,off+j,none⟩=some x/\Seg w x Ls[j]
theorem Segs.grown {w w':World}{v:Value}{Ls:List (List UInt8)}(h:Segs w v Ls)(hg:w.grownBy w' none):Segs w' v Ls:=by
 obtain ⟨ao,cap,hv,h1,h2⟩:=h
 refine ⟨ao,cap,hv,h1,fun j hj=>?_⟩
 obtain ⟨b,off,x,e,hc,hx⟩:=h2 j hj
 exact ⟨b,off,x,e,hg.cell hc (by simp),hx.grown hg⟩
theorem flatten_take_le (Ls:List (List UInt8))(k:Nat):(Ls.take k).flatten.length<=Ls.flatten.length:=by
 have:=congrArg List.length (congrArg List.flatten (List.take_append_drop k Ls))
 simp only [List.flatten_append,List.length_append] at this
 omega
theorem flatten_take_succ (Ls:List (List UInt8))(k:Nat)(h:k<Ls.length):(Ls.take (k+1)).flatten=(Ls.take k).flatten ++ Ls[k]:=by
 rw [List.take_succ_eq_append_getElem h,List.flatten_append,List.flatten_cons,List.flatten_nil,List.append_nil]
theorem join10 (v:Value)(Ls:List (List UInt8))(w:World)(hs:Segs w v Ls)(hsz:Ls.flatten.length<=140737488355328):Calls Tryz.prog 99 #[v] w (FormPost Ls.flatten w):=by
 have HS:Hid (Segs w v Ls):=hs
 have HZ:Hid (Ls.flatten.length<=140737488355328):=hsz
 obtain ⟨ao,cap,rfl,hlen,h4⟩:=hs
 have H4:Hid _:=h4
 clear h4 hsz
 go_enter Tryz.func99,Tryz.ntmps99
 go_wp2
 go_loopw [3,8] (fun x i wr=>∃k:Nat,k<=Ls.length/\i=.int .i64 k/\Own wr w.heap.size x (Ls.take k).flatten/\w.grownBy wr none) (fun _ i _=>Ls.length-(intOf i).toNat)
 case atStart=>exact ⟨0,by omega,rfl,by simpa using Own.nil _ _,grown_refl _ _⟩
 case round =>
  obtain ⟨k,hk,rfl,hown,hg⟩:=hrel
  by_cases hlt:k<Ls.length
  ·obtain ⟨b,off,x,rfl,hc,hx⟩:=H4.out k hlt
   have hcr:wr.cell? ⟨b,off+k,none⟩=some x:=hg.cell hc (by simp)
   have HX:Hid (Seg wr x Ls[k]):=hx.grown hg
   obtain ⟨ao2,cap2,rfl⟩:=hx.shape
   have hle:(Ls.take k).flatten.length+Ls[k].length<=Ls.flatten.length:=by
    have:=flatten_take_le Ls (k+1)
    rw [flatten_take_succ Ls k hlt,List.length_append] at this;exact this
   have hsz:=hg.size
   have HLE:Hid _:=hle
   clear hc hx hle
   obtain ⟨M,hM⟩:∃M,Ls[k]=M:=⟨_,rfl⟩
   obtain ⟨A,hA⟩:∃A,(Ls.take k).flatten=A:=⟨_,rfl⟩
   have HT:Hid ((Ls.take (k+1)).flatten=A ++ M):=by rw [<-hM,<-hA];exact flatten_take_succ Ls k hlt
   rw [hM] at HX HLE hcr
   rw [hA] at hown HLE
   clear hM hA
   go_wp2_with (at_builtin;refine app23 _ rfl _ _ rfl w.heap.size _ A _ M rfl rfl hown HX.out ?c1 ?c2 ?_)
   case c1=>have:=HLE.out;have:=HZ.out;omega
   case c2=>omega
   intro v' w1 hown' hg'
   have F:Hid _:=And.intro hown' (grown_new hg hg' hown.lt)
   clear hown' hg' hg hown hcr
   go_wp2_with fail
   obtain ⟨h1,h2⟩:=F.out
   go_roundw
   case rel=>exact ⟨k+1,by omega,by go_num,by rw [HT.out];exact h1,h2⟩
   case measure=>simp [intOf];omega
  ·have F:Hid _:=And.intro hown hg
   clear hown hg
   go_wp2_with fail
   go_ret
   obtain ⟨h1,h2⟩:=F.out
   rw [List.take_of_length_le (by omega)] at h1
   exact ⟨_,rfl,h1,h2⟩
def InB (g:Nat)(v:Value):Prop:=∀k,v.ownBlock=some k->k=g
theorem inB_map {g m n c n' c':Nat}{ao:Option Addr}(h:InB g (.slice ao n c)):InB g (.slice (Option.map (fun x=>x.add m) ao) n' c'):=by
 intro k hk
 cases ao with
 | none=>simp [Value.ownBlock] at hk
 | some a =>
  have h1:(a.add m).block=a.block:=by unfold Addr.add;split <;> rfl
  simp [Value.ownBlock] at hk
  exact h k (by simp [Value.ownBlock,<-hk,h1])
theorem inB_same {g n c n' c':Nat}{ao:Option Addr}(h:InB g (.slice ao n c)):InB g (.slice ao n' c'):=by
 intro k hk
 exact h k (by cases ao <;> simp [Value.ownBlock] at hk ⊢;exact hk)
theorem pass_g (b:Nat)(o:Bool)(s:Value)(L:List UInt8)(m:Nat)(w:World)(hr:RdB w b o s)(hs:Seg w s L)(g:Nat)(hgs:InB g s)(hm:m<=L.length) :
  Calls Tryz.prog 196 #[.pointer (some ⟨b,0,none⟩),.int .i64 m] w fun e w'=>∃p,e=.returned p/\Seg w p (L.take m)/\∃t,Seg w t (L.drop m)/\InB g t/\w'=w.setCell ⟨b,1,none⟩ t:=by
 have hs':=hs
 obtain ⟨ao,cap,rfl,h1,h2,h3,h4⟩:=hs'
 have hc1:=hr.cell1
 have hf:=hr.free 1
 have hmx:=h2
 unfold maxLen at hmx
 have HI:Hid _:=hgs
 clear h3 h4 hgs
 go_enter Tryz.func196,Tryz.ntmps196
 go_wp2
 ·go_ret
  have hcm:cap=m:=by assumption
  subst hcm
  exact ⟨_,rfl,seg_take _ hm hs,_,seg_drop_all _ hm rfl hs,inB_same HI.out,rfl⟩
 ·go_ret
  exact ⟨_,rfl,seg_take m hm hs,_,seg_drop m hm hs,inB_map HI.out,rfl⟩
theorem pass_gint (b:Nat)(o:Bool)(s:Value)(L:List UInt8)(mi:Int)(m:Nat)(w:World)(he:mi=m)(hr:RdB w b o s)(hs:Seg w s L)(g:Nat)(hgs:InB g s)(hm:m<=L.length) :
  Calls Tryz.prog 196 #[.pointer (some ⟨b,0,none⟩),.int .i64 mi] w fun e w'=>∃p,e=.returned p/\Seg w p (L.take m)/\∃t,Seg w t (L.drop m)/\InB g t/\w'=w.setCell ⟨b,1,none⟩ t:=by
 subst he;exact pass_g b o s L m w hr hs g hgs hm
theorem digits_g (b:Nat)(o:Bool)(s:Value)(L:List UInt8)(n k:Nat)(w:World)(hr:RdB w b o s)(hs:Seg w s L)(g:Nat)(hgs:InB g s)(hn:scan 0 0 L=some (n,k)) :
  Calls Tryz.prog 192 #[.pointer (some ⟨b,0,none⟩)] w fun e w'=>e=.returned (.tuple #[.int .u64 n,.int .i64 0])/\∃t,Seg w t (L.drop k)/\InB g t/\w'=w.setCell ⟨b,1,none⟩ t:=by
 have hlen:=hs.len
 have hs0:=hs
 obtain ⟨ao,cap,rfl,h1,h2,h3,h4⟩:=hs
 have hc1:=hr.cell1
 have HN:Hid (scan 0 0 L=some (n,k)):=hn
 have H4:Hid _:=h4
 have HI:Hid _:=hgs
 clear hn h4 h3 hgs
 go_enter Tryz.func192,Tryz.ntmps192
 go_wp2
 go_step3;go_wp2;go_step3;go_wp2
 go_loop [4,12] (fun m i=>∃p acc:Nat,p<=9/\p<=L.length/\i=.int .i64 p/\m=.int .u64 acc/\Hid (scan p acc (L.drop p)=some (n,k))/\Hid (acc<2 ^ (7*p))) (fun _ i=>L.length-(intOf i).toNat)
 case atStart=>exact ⟨0,0,by omega,by omega,rfl,rfl,by simpa using HN,by simp [Hid]⟩
 case round =>
  obtain ⟨p,acc,hp9,hpl,rfl,rfl,Hs,HA⟩:=hrel
  by_cases hlt:p<L.length
  ·obtain ⟨bb,off,rfl,hcell⟩:=H4.out p hlt
   have hstep:=scan_step L p acc hlt
   obtain ⟨c,hc⟩:∃c:Nat,c=L[p].toNat:=⟨_,rfl⟩
   have hc256:c<256:=by rw [hc];exact L[p].toNat_lt
   rw [<-hc] at hcell hstep
   rw [Hs.out] at hstep
   by_cases cc:(0<p/\c=0)\/(p=9/\1<c)
   ·rw [if_pos cc] at hstep;cases hstep
   ·rw [if_neg cc] at hstep
    have hd:=digit_lt acc p c hp9 HA.out (by omega)
    have HW:Hid _:=wrap_digit acc p c hd.1
    have HD:Hid _:=hd
    clear hd hc
    by_cases c3:c<128
    ·rw [if_pos c3] at hstep
     simp only [Option.some.injEq,Prod.mk.injEq] at hstep
     have e1:Hid _:=hstep.1
     have e2:Hid _:=hstep.2
     clear hstep Hs HN H4
     have k2:p+1<=L.length:=by omega
     have cases3:(p<=0)\/(0<p/\p<=8/\0<c)\/(0<p/\9<=p/\0<c/\c<=1):=by omega
     clear cc
     rcases cases3 with d | ⟨d,d2,d3⟩ | ⟨d,d2,d3,d4⟩
     all_goals
      go_wp2_with fail
      refine (pass_gint b o _ L _ (p+1) _ (by omega) hr hs0 g HI.out k2).mono ?_
      rintro e w' ⟨pp,rfl,_,t,ht,hit,rfl⟩
      have HIT:Hid _:=hit
      clear hit
      go_wp2_with fail
      first | rw [Exit.noGoto_ret] | skip
      go_ret2
      refine ⟨?_,t,by rw [e2.out];exact ht,HIT.out,rfl⟩
      rw [e1.out]
      first | exact ret_two (HW.out) | exact ret_two (wrap_nine acc p c (by omega) HD.out.1)
    ·rw [if_neg c3] at hstep
     have HST:Hid _:=hstep
     have c0:128<=c:=by omega
     have p9:p<=8:=by omega
     clear cc c3 hstep
     by_cases d1:0<p
     all_goals
      go_wp2_with fail
      go_round
      case rel=>exact ⟨p+1,_,by omega,by omega,by go_num,by rw [HW.out],HST.out.symm,HD.out.2⟩
      case measure=>simp [intOf];omega
  ·have:=Hs.out
   rw [List.drop_eq_nil_of_le (by omega)] at this
   cases this
theorem count50_g (b:Nat)(o:Bool)(s:Value)(L:List UInt8)(n k:Nat)(most:Int)(w:World)(hr:RdB w b o s)(hs:Seg w s L)(g:Nat)(hgs:InB g s)(h0:0<=most)(hm:most<=9223372036854775807)(hn:scan 0 0 L=some (n,k)) :
  Calls Tryz.prog 173 #[.pointer (some ⟨b,0,none⟩),.int .i64 most] w fun e w'=>e=.returned (.tuple #[.int .u64 (rdCount L most).1,.int .i64 (rdCount L most).2.1])/\∃t,Seg w t (L.drop k)/\InB g t/\w'=w.setCell ⟨b,1,none⟩ t:=by
 have HC:Hid _:=digits_g b o s L n k w hr hs g hgs hn
 have hb:=(scan_bound L 0 0 (by omega) (by simp) n k hn).1
 have hn64:n<=18446744073709551615:=by omega
 by_cases hlt:most<(n:Int)
 ·have e1:rdCount L most=(0,3,L.drop k):=by simp [rdCount,hn,hlt,show ¬most<0 by omega]
  rw [e1]
  clear hr hs hn hb e1
  go_enter Tryz.func173,Tryz.ntmps173
  go_wp2_with fail
  refine Calls.mono HC.out ?_
  rintro e w' ⟨rfl,h1⟩
  have F:Hid _:=h1
  clear h1 HC
  go_wp2_with fail
  go_ret2
  exact ⟨rfl,F.out⟩
 ·have e1:rdCount L most=(n,0,L.drop k):=by simp [rdCount,hn,hlt,show ¬most<0 by omega]
  rw [e1]
  clear hr hs hn hb e1
  go_enter Tryz.func173,Tryz.ntmps173
  go_wp2_with fail
  refine Calls.mono HC.out ?_
  rintro e w' ⟨rfl,h1⟩
  have F:Hid _:=h1
  clear h1 HC
  go_wp2_with fail
  go_ret2
  exact ⟨rfl,F.out⟩
def RdG (w:World)(b g:Nat)(L:List UInt8):Prop:=∃s,RdB w b true s/\Seg w s L/\InB g s
theorem RdG.rd {w:World}{b g:Nat}{L:List UInt8}(h:RdG w b g L):Rd w b L:=by obtain ⟨s,h1,h2,_⟩:=h;exact ⟨s,h1,h2⟩
theorem RdG.kept {w w':World}{b g:Nat}{L:List UInt8}{r:Option Nat}(h:RdG w b g L)(hg:w.grownBy w' r)(hb:r≠some b)(hr:r≠some g):RdG w' b g L:=by
 obtain ⟨s,h1,h2,h3⟩:=h
 refine ⟨s,h1.kept hg hb,?_,h3⟩
 obtain ⟨ao,cap,rfl,q1,q2,q3,q4⟩:=h2
 refine ⟨ao,cap,rfl,q1,q2,q3,fun j hj=>?_⟩
 obtain ⟨b',off,rfl,hc⟩:=q4 j hj
 have e:b'=g:=h3 b' rfl
 subst e
 exact ⟨b',off,rfl,hg.cell hc (fun e=>hr e.symm)⟩
theorem whole46_g (b g:Nat)(L:List UInt8)(w:World)(hr:RdG w b g L) :
  Calls Tryz.prog 193 #[.pointer (some ⟨b,0,none⟩),.func (.func 192) #[] #[]] w fun e w'=>e=.returned (.tuple #[.int .u64 (rdNum L).1,.int .i64 (rdNum L).2.1])/\RdG w' b g (rdNum L).2.2/\w.grownBy w' (some b):=by
 obtain ⟨s,hr,hs,hi⟩:=hr
 obtain ⟨ao,cap,rfl⟩:=hs.shape
 cases h:scan 0 0 L with
 | none =>
  rw [rdNum_none h]
  refine (whole46_err b ao L.length cap 4 w hr (by decide) ((digits_none b true _ L _ (rdb_alloc hr _) (seg_alloc hs _) h).mono ?_)).mono ?_
  ·rintro e w2 ⟨rfl,rfl⟩
   exact ⟨_,rfl,⟨_,rdb_alloc hr _⟩,grown_refl _ _⟩
  ·rintro e w' ⟨rfl,h1,h2⟩
   exact ⟨rfl,⟨_,h1,hs.grownR hr h2,hi⟩,h2⟩
 | some x =>
  obtain ⟨n,k⟩:=x
  rw [rdNum_some h]
  refine (whole46_ok b ao L.length cap w (fun v w'=>v=.int .u64 n/\RdG w' b g (L.drop k)/\w.grownBy w' (some b)) hr ((digits_g b true _ L n k _ (rdb_alloc hr _) (seg_alloc hs _) g hi h).mono ?_)).mono ?_
  ·rintro e w2 ⟨rfl,t,ht,hit,rfl⟩
   exact ⟨_,rfl,rfl,⟨t,RdB.store (rdb_alloc hr _) t,ht.grownR (rdb_alloc hr _) (grown_setCell _ b 1 t),hit⟩,grown_trans (World.grownBy_alloc w _ _) (grown_setCell _ b 1 t)⟩
  ·rintro e w' ⟨_,rfl,rfl,h1,h2⟩
   exact ⟨rfl,h1,h2⟩
theorem number25_g (b g:Nat)(L:List UInt8)(w:World)(hr:RdG w b g L) :
  Calls Tryz.prog 176 #[.pointer (some ⟨b,0,none⟩)] w fun e w'=>e=.returned (.tuple #[.int .u64 (rdNum L).1,.int .i64 (rdNum L).2.1])/\RdG w' b g (rdNum L).2.2/\w.grownBy w' (some b):=by
 go_enter Tryz.func176,Tryz.ntmps176
 go_wp2_with fail
 refine (whole46_g b g L _ hr).mono ?_
 rintro e w' ⟨rfl,h1,h2⟩
 have F:Hid _:=And.intro h1 h2
 clear h1 h2
 go_wp2_with fail
 go_ret2
 exact ⟨rfl,F.out⟩
def NV (xs:List Nat):List Value:=xs.map fun (n:Nat)=>Value.int .u64 (n:Int)
def OwnN (w:World)(B:Nat)(v:Value)(xs:List Nat):Prop:=w.ownsRow B 152 1 v xs.length (NV xs)
theorem OwnN.nil (w:World)(B:Nat):OwnN w B (.slice none 0 0) []:=World.ownsRow_nil w B 152 1
theorem OwnN.lt {w:World}{B:Nat}{v:Value}{xs:List Nat}(h:OwnN w B v xs):∀k,v.ownBlock=some k->B<=k:=fun k hk=>(World.ownsRow.lt h k hk).1
theorem OwnN.grown {w w':World}{B:Nat}{v:Value}{xs:List Nat}(h:OwnN w B v xs)(hg:w.grownBy w' none):OwnN w' B v xs:=World.ownsRow.kept h hg (by cases v.ownBlock <;> simp)
theorem OwnN.mono {w:World}{B B':Nat}{v:Value}{xs:List Nat}(h:OwnN w B v xs)(hB:B'<=B):OwnN w B' v xs:=by
 refine ⟨h.1,?_⟩
 rcases h.2 with h2 | ⟨g,cap,cur,h1,hb,h3⟩
 ·exact .inl h2
 ·exact .inr ⟨g,cap,cur,h1,by omega,h3⟩
theorem after_count {w:World}{b:Nat}{s:Value}{L:List UInt8}(g _n k:Nat)(hr:RdB w b true s)(hs:Seg w s L)(hi:InB g s)(t:Value)(ht:Seg w t (L.drop k))(hit:InB g t) :
  RdG (w.setCell ⟨b,1,none⟩ t) b g (L.drop k):=by
 obtain ⟨ao,cap,rfl⟩:=hs.shape
 exact ⟨t,hr.store t,ht.grownR hr (grown_setCell _ _ _ _),hit⟩
theorem bit53_g (b:Nat)(o:Bool)(s:Value)(c:UInt8)(l:List UInt8)(w:World)(hr:RdB w b o s)(hs:Seg w s (c :: l))(g:Nat)(hgs:InB g s)(hle:c.toNat<=1) :
  Calls Tryz.prog 198 #[.pointer (some ⟨b,0,none⟩)] w fun e w'=>e=.returned (.tuple #[.bool (c.toNat==1),.int .i64 0])/\∃t,Seg w t l/\InB g t/\w'=w.setCell ⟨b,1,none⟩ t:=by
 have HC:Hid _:=pass_gint b o s (c :: l) 1 1 w rfl hr hs g hgs (by simp)
 have HR:Hid _:=hr
 clear hgs
 obtain ⟨ao,cap,rfl,h1,h2,h3,h4⟩:=hs
 have hc1:=hr.cell1
 obtain ⟨bb,off,rfl,hc⟩:=h4 0 (by simp)
 have hc:w.cell? ⟨bb,off,none⟩=some (.int .u8 (c.toNat:Int)):=by simpa using hc
 have hlen:0<(c :: l).length:=by simp
 obtain ⟨n,hn⟩:∃n,(c :: l).length=n:=⟨_,rfl⟩
 rw [hn] at hc1 hlen
 obtain ⟨x,hx⟩:∃x,c.toNat=x:=⟨_,rfl⟩
 rw [hx] at hc hle ⊢
 have HX:Hid _:=hx
 clear h4 h3 h2 h1 hr hn hx
 have n0:((n:Int)==0)=false:=by simp;omega
 have x1:decide ((1:Int)<(x:Int))=false:=by simp;omega
 go_enter Tryz.func198,Tryz.ntmps198
 go_wp2_with fail
 refine Calls.mono HC.out ?_
 rintro e w' ⟨p,rfl,hp,t,ht,hit,hw⟩
 have hp2:Seg w' p [c]:=by
  have e:List.take 1 (c :: l)=[c]:=rfl
  rw [e] at hp
  rw [hw]
  exact hp.grownR HR.out (grown_setCell w b 1 t)
 obtain ⟨b2,off2,cap2,rfl,hc2⟩:=seg_one_cell hp2
 rw [HX.out] at hc2
 have F:Hid (∃t,Seg w t l/\InB g t/\w'=w.setCell ⟨b,1,none⟩ t):=⟨t,by simpa using ht,hit,hw⟩
 clear ht hit hw hp hp2 HC
 go_wp2_with fail
 go_ret2
 exact ⟨ret_flag (by rw [Bool.eq_iff_iff];simp;omega),F.out⟩
theorem whole52_g (b g:Nat)(L:List UInt8)(w:World)(hr:RdG w b g L) :
  Calls Tryz.prog 197 #[.pointer (some ⟨b,0,none⟩),.func (.func 198) #[] #[]] w fun e w'=>e=.returned (.tuple #[.bool (rdFlag L).1,.int .i64 (rdFlag L).2.1])/\RdG w' b g (rdFlag L).2.2/\w.grownBy w' (some b):=by
 obtain ⟨s,hr,hs,hi⟩:=hr
 obtain ⟨ao,cap,rfl⟩:=hs.shape
 have bad:rdFlag L=(false,4,L)->Calls Tryz.prog 197 #[.pointer (some ⟨b,0,none⟩),.func (.func 198) #[] #[]] w fun e w'=>e=.returned (.tuple #[.bool (rdFlag L).1,.int .i64 (rdFlag L).2.1])/\RdG w' b g (rdFlag L).2.2/\w.grownBy w' (some b):=by
  intro h
  have h4:(rdFlag L).2.1=4:=by rw [h]
  rw [h]
  refine (whole52_err b ao L.length cap 4 w hr (by decide) ((bit53_bad b true _ L _ (rdb_alloc hr _) (seg_alloc hs _) h4).mono ?_)).mono ?_
  ·rintro e w2 ⟨rfl,rfl⟩
   exact ⟨_,rfl,⟨_,rdb_alloc hr _⟩,grown_refl _ _⟩
  ·rintro e w' ⟨rfl,h1,h2⟩
   exact ⟨rfl,⟨_,h1,hs.grownR hr h2,hi⟩,h2⟩
 cases L with
 | nil=>exact bad rfl
 | cons c l =>
  by_cases hc:1<c.toNat
  ·exact bad (by simp [rdFlag,hc])
  ·have e:rdFlag (c :: l)=(c.toNat==1,0,l):=by simp [rdFlag,hc]
   rw [e]
   refine (whole52_ok b ao (c :: l).length cap w (fun v w'=>v=.bool (c.toNat==1)/\RdG w' b g l/\w.grownBy w' (some b)) hr ((bit53_g b true _ c l _ (rdb_alloc hr _) (seg_alloc hs _) g hi (by omega)).mono ?_)).mono ?_
   ·rintro e w2 ⟨rfl,t,ht,hit,rfl⟩
    exact ⟨_,rfl,rfl,⟨t,RdB.store (rdb_alloc hr _) t,ht.grownR (rdb_alloc hr _) (grown_setCell _ b 1 t),hit⟩,grown_trans (World.grownBy_alloc w _ _) (grown_setCell _ b 1 t)⟩
   ·rintro e w' ⟨_,rfl,rfl,h1,h2⟩
    exact ⟨rfl,h1,h2⟩
theorem flag28_g (b g:Nat)(L:List UInt8)(w:World)(hr:RdG w b g L) :
  Calls Tryz.prog 181 #[.pointer (some ⟨b,0,none⟩)] w fun e w'=>e=.returned (.tuple #[.bool (rdFlag L).1,.int .i64 (rdFlag L).2.1])/\RdG w' b g (rdFlag L).2.2/\w.grownBy w' (some b):=by
 go_enter Tryz.func181,Tryz.ntmps181
 go_wp2_with fail
 refine (whole52_g b g L _ hr).mono ?_
 rintro e w' ⟨rfl,h1,h2⟩
 have F:Hid _:=And.intro h1 h2
 clear h1 h2
 go_wp2_with fail
 go_ret2
 exact ⟨rfl,F.out⟩
def OkG (b g:Nat)(out rest:List UInt8)(w:World)(v:Value)(w':World):Prop:=Own w' w.heap.size v out/\RdG w' b g rest/\w.grownBy w' (some b)
theorem bytes49_g (b bx:Nat)(s:Value)(L:List UInt8)(n k:Nat)(most:Int)(w:World)(hr:RdB w b true s)(hs:Seg w s L)(g:Nat)(hgs:InB g s)(hbx:w.cell? ⟨bx,0,none⟩=some (.int .i64 most))(h:0<=most)(hm:most<=9223372036854775807)(hn:scan 0 0 L=some (n,k))(hl:¬most<(n:Int))(hf:¬(L.drop k).length<n)(hsz:L.length<=140737488355328) :
  Calls Tryz.prog 195 #[.pointer (some ⟨b,0,none⟩),.pointer (some ⟨bx,0,none⟩)] w fun e w'=>∃v,e=.returned (.tuple #[v,.int .i64 0])/\OkG b g ((L.drop k).take n) ((L.drop k).drop n) w v w':=by
 have HR:Hid _:=hr
 have HC:Hid _:=count50_g b true s L n k most w hr hs g hgs h hm hn
 rw [rdCount_ok h hn hl] at HC
 have HL:Hid _:=hs.len
 have hlen:=hs.len
 have hd:(L.drop k).length<=L.length:=by simp
 obtain ⟨M,hM⟩:∃M,L.drop k=M:=⟨_,rfl⟩
 rw [hM] at HC hf hd ⊢
 have HZ:Hid (M.length<=140737488355328):=by unfold Hid;omega
 obtain ⟨ao0,cap0,rfl⟩:=hs.shape
 clear hr hs hn hM hsz hgs
 go_enter Tryz.func195,Tryz.ntmps195
 go_wp2_with fail
 refine Calls.mono HC.out ?_
 rintro e w' ⟨rfl,t,ht,hit,hw⟩
 have HIT:Hid _:=hit
 clear hit
 obtain ⟨ao,cap,rfl⟩:=ht.shape
 have hr1:RdB w' b true (.slice ao M.length cap):=by subst hw;exact RdB.store HR.out _
 have hs1:Seg w' (.slice ao M.length cap) M:=by subst hw;exact ht.grownR HR.out (grown_setCell _ _ _ _)
 have G1:Hid (w.grownBy w' (some b)):=by subst hw;exact grown_setCell _ _ _ _
 have hc1:=hr1.cell1
 have HR1:Hid _:=hr1
 have HS1:Hid _:=hs1
 clear ht hw HC hr1 hs1
 go_wp2_with fail
 refine (pass_gint b true _ M _ n _ ?_ HR1.out HS1.out g HIT.out ?_).mono ?_
 ·rfl
 ·omega
 rintro e w2 ⟨p,rfl,hp,t2,ht2,hit2,hw2⟩
 have F2:Hid (Seg w2 p (M.take n)/\RdB w2 b true t2/\Seg w2 t2 (M.drop n)/\w.grownBy w2 (some b)/\InB g t2):=by
  subst hw2
  exact ⟨hp.grownR HR1.out (grown_setCell _ _ _ _),RdB.store HR1.out _,ht2.grownR HR1.out (grown_setCell _ _ _ _),grown_trans G1.out (grown_setCell _ _ _ _),hit2⟩
 clear hp ht2 hw2 hit2
 go_wp2_with fail
 refine (clone_any p (M.take n) _ F2.out.1 ?_).mono ?_
 ·have:=HZ.out;simp;omega
 rintro e w3 ⟨u,rfl,hu,hg3⟩
 have F3:Hid (OkG b g (M.take n) (M.drop n) w u w3):=by
  obtain ⟨_,h2,h3,h4,h5⟩:=F2.out
  exact ⟨hu.mono h4.size,⟨_,h2.kept hg3 (by simp),h3.grown hg3,h5⟩,grown_trans h4 (grown_weak hg3 _)⟩
 clear hu hg3
 go_wp2_with fail
 go_ret2
 exact ⟨_,rfl,F3.out⟩
theorem whole48_g (b g bx:Nat)(L:List UInt8)(most:Int)(w:World)(hr:RdG w b g L)(hbx:w.cell? ⟨bx,0,none⟩=some (.int .i64 most))(hm:most<=9223372036854775807)(hsz:L.length<=140737488355328) :
  Calls Tryz.prog 194 #[.pointer (some ⟨b,0,none⟩),.func (.func 195) #[] #[.pointer (some ⟨bx,0,none⟩)]] w fun e w'=>∃v,e=.returned (.tuple #[v,.int .i64 (rdBytes L most).2.1])/\OkG b g (rdBytes L most).1 (rdBytes L most).2.2 w v w':=by
 obtain ⟨s,hr,hs,hi⟩:=hr
 obtain ⟨ao,cap,rfl⟩:=hs.shape
 have hbx2:∀x,(w.alloc x).cell? ⟨bx,0,none⟩=some (.int .i64 most):=fun x=>(World.grownBy_alloc w x none).cell hbx (by simp)
 have bad:∀er:Int,er≠0->Calls Tryz.prog 195 #[.pointer (some ⟨b,0,none⟩),.pointer (some ⟨bx,0,none⟩)] (w.alloc (.cells #[.bool true,.slice ao L.length cap] 220)) (ErrPost b er (w.alloc (.cells #[.bool true,.slice ao L.length cap] 220))) →
   Calls Tryz.prog 194 #[.pointer (some ⟨b,0,none⟩),.func (.func 195) #[] #[.pointer (some ⟨bx,0,none⟩)]] w fun e w'=>∃v,e=.returned (.tuple #[v,.int .i64 er])/\OkG b g [] L w v w':=by
  intro er her hC
  refine (whole48_err (.pointer (some ⟨bx,0,none⟩)) b ao L.length cap er w hr her hC).mono ?_
  rintro e w' ⟨rfl,h1,h2⟩
  exact ⟨_,rfl,Own.nil _ _,⟨_,h1,hs.grownR hr h2,hi⟩,h2⟩
 by_cases hneg:most<0
 ·rw [rdBytes_neg hneg]
  exact bad 2 (by decide) (bytes49_neg b bx _ most _ (rdb_alloc hr _) (hbx2 _) hneg)
 ·have h0:0<=most:=by omega
  cases hn:scan 0 0 L with
  | none =>
   rw [rdBytes_none h0 hn]
   exact bad 4 (by decide) (bytes49_none b bx _ L most _ (rdb_alloc hr _) (seg_alloc hs _) (hbx2 _) h0 hn)
  | some x =>
   obtain ⟨n,k⟩:=x
   by_cases hl:most<(n:Int)
   ·rw [rdBytes_long h0 hn hl]
    exact bad 3 (by decide) (bytes49_long b bx _ L n k most _ (rdb_alloc hr _) (seg_alloc hs _) (hbx2 _) h0 hm hn hl)
   ·by_cases hf:(L.drop k).length<n
    ·rw [rdBytes_few h0 hn hl hf]
     exact bad 4 (by decide) (bytes49_few b bx _ L n k most _ (rdb_alloc hr _) (seg_alloc hs _) (hbx2 _) h0 hm hn hl hf)
    ·rw [rdBytes_ok h0 hn hl hf]
     refine (whole48_ok (.pointer (some ⟨bx,0,none⟩)) b ao L.length cap w (fun v w'=>OkG b g ((L.drop k).take n) ((L.drop k).drop n) w v w') hr ((bytes49_g b bx _ L n k most _ (rdb_alloc hr _) (seg_alloc hs _) g hi (hbx2 _) h0 hm hn hl hf hsz).mono ?_))
     rintro e w2 ⟨v,rfl,h1,h2,h3⟩
     exact ⟨v,rfl,h1.mono (World.grownBy_alloc w (.cells #[.bool true,.slice ao L.length cap] 220) none).size,h2,grown_trans (World.grownBy_alloc w _ _) h3⟩
theorem bytes27_g (b g:Nat)(L:List UInt8)(most:Int)(w:World)(hr:RdG w b g L)(hm:most<=9223372036854775807)(hsz:L.length<=140737488355328) :
  Calls Tryz.prog 179 #[.pointer (some ⟨b,0,none⟩),.int .i64 most] w fun e w'=>∃v,e=.returned (.tuple #[v,.int .i64 (rdBytes L most).2.1])/\OkG b g (rdBytes L most).1 (rdBytes L most).2.2 w v w':=by
 have hr1:RdG (w.alloc (.cells #[.int .i64 most] 3)) b g L:=by
  obtain ⟨s,h1,h2,h3⟩:=hr
  exact ⟨s,rdb_alloc h1 _,seg_alloc h2 _,h3⟩
 have HC:Hid _:=whole48_g b g w.heap.size L most _ hr1 (by simp) hm hsz
 clear hr hr1 hsz
 go_enter Tryz.func179,Tryz.ntmps179
 go_wp2_with fail
 refine Calls.mono HC.out ?_
 rintro e w' ⟨v,rfl,h1,h2,h3⟩
 have F:Hid (OkG b g (rdBytes L most).1 (rdBytes L most).2.2 w v w'):=⟨h1.mono (by simp),h2,grown_trans (World.grownBy_alloc w _ _) h3⟩
 clear h1 h2 h3
 go_wp2_with fail
 go_ret2
 exact ⟨_,rfl,F.out⟩
def bytesForm (L:List UInt8):List UInt8:=numForm L.length ++ L
theorem segs_lit (w:World)(xs:Array Value)(Ls:List (List UInt8))(_hl:xs.size=Ls.length)(hb:Ls.length<=9223372036854775807)(h:∀j (hj:j<Ls.length),∃x,xs[j]? = some x/\Seg w x Ls[j]) :
  Segs (w.alloc (.cells xs 41)) (.slice (some ⟨w.heap.size,0,none⟩) Ls.length Ls.length) Ls:=by
 refine ⟨_,_,rfl,hb,fun j hj=>?_⟩
 obtain ⟨x,hx,hs⟩:=h j hj
 refine ⟨w.heap.size,0,x,rfl,?_,seg_alloc hs _⟩
 rw [cell_of_row _ _ _ _ _ _ (heap_alloc_new w _)]
 simpa using hx
theorem segs_two {w:World}{x y:Value}{L M:List UInt8}(hx:Seg w x L)(hy:Seg w y M):Segs (w.alloc (.cells #[x,y] 41)) (.slice (some ⟨w.heap.size,0,none⟩) 2 2) [L,M] :=
 segs_lit w #[x,y] [L,M] rfl (by simp) fun j hj=>match j,hj with
  | 0,_=>⟨x,rfl,hx⟩
  | 1,_=>⟨y,rfl,hy⟩
  | j+2,h=>absurd h (by simp)
theorem bytes8 (v:Value)(L:List UInt8)(w:World)(hs:Seg w v L)(hsz:L.length<=140737488355318):Calls Tryz.prog 145 #[v] w (FormPost (bytesForm L) w):=by
 have HS:Hid (Seg w v L):=hs
 have HZ:Hid (L.length<=140737488355318):=hsz
 have hlen:=hs.len
 obtain ⟨ao,cap,rfl⟩:=hs.shape
 clear hs hsz
 go_enter Tryz.func145,Tryz.ntmps145
 go_wp2_with fail
 refine (number9_int _ L.length rfl ?_ _).mono ?_
 ·have:=HZ.out;omega
 rintro e w1 ⟨u,rfl,hu,hg⟩
 have F1:Hid (Own w1 w.heap.size u (numForm L.length)/\w.grownBy w1 none):=⟨hu,hg⟩
 obtain ⟨ao1,cap1,rfl⟩:=hu.seg.shape
 clear hu hg
 go_wp2_with fail
 refine (join10 _ [numForm L.length,L] _ (segs_two F1.out.1.seg (Seg.grown HS.out F1.out.2)) ?_).mono ?_
 ·have:=HZ.out
  have:=numForm_len10 L.length (by omega)
  simp;omega
 rintro e w2 ⟨u2,rfl,hu2,hg2⟩
 have F2:Hid (Own w2 w.heap.size u2 (bytesForm L)/\w.grownBy w2 none):=by
  have hsz:=F1.out.2.size
  refine ⟨?_,grown_trans (grown_trans F1.out.2 (World.grownBy_alloc _ _ _)) hg2⟩
  have e:[numForm L.length,L].flatten=bytesForm L:=by simp [bytesForm]
  rw [e] at hu2
  exact hu2.mono (by simp;omega)
 clear hu2 hg2
 go_wp2_with fail
 go_ret
 exact ⟨_,rfl,F2.out⟩
theorem bytes11 (v:Value)(L:List UInt8)(w:World)(hs:Seg w v L)(hsz:L.length<=140737488355318):Calls Tryz.prog 123 #[v] w (FormPost (bytesForm L) w):=by
 have HS:Hid (Seg w v L):=hs
 have HZ:Hid (L.length<=140737488355318):=hsz
 have hlen:=hs.len
 obtain ⟨ao,cap,rfl⟩:=hs.shape
 clear hs hsz
 go_enter Tryz.func123,Tryz.ntmps123
 go_wp2_with fail
 refine (number12_int _ L.length rfl ?_ _).mono ?_
 ·have:=HZ.out;omega
 rintro e w1 ⟨u,rfl,hu,hg⟩
 have F1:Hid (Own w1 w.heap.size u (numForm L.length)/\w.grownBy w1 none):=⟨hu,hg⟩
 have hsz:=hg.size
 clear hu hg
 go_wp2_with (at_builtin;refine app23 _ rfl _ _ rfl w.heap.size _ (numForm L.length) _ L rfl rfl F1.out.1 (Seg.grown HS.out F1.out.2) ?c1 ?c2 ?_)
 case c1 =>
  have:=HZ.out
  have:=numForm_len10 L.length (by omega)
  omega
 case c2=>omega
 intro v' w2 hown' hg'
 have F:Hid _:=And.intro hown' (grown_new F1.out.2 hg' (Own.lt F1.out.1))
 clear hown' hg'
 go_wp2_with fail
 go_ret
 exact ⟨_,rfl,F.out⟩
theorem seg_str {w:World}{v:Value}{L:List UInt8}(h:Seg w v L):(convert 41 9 v).run Tryz.prog w=.ok (.string ⟨L.toArray⟩) w:=by
 have hs:=h
 obtain ⟨ao,cap,rfl,h1,h2,h3,h4⟩:=h
 cases ao with
 | none =>
  have hL:L=[]:=List.eq_nil_of_length_eq_zero (by have:=h3 rfl;omega)
  subst hL
  rw [run_convert_bytes_nil w 41 5 Tryz.underlying41 Tryz.underlying5 _ _ 9 Tryz.underlying9]
  rfl
 | some ad =>
  refine run_convert_bytes_back w 41 9 5 ad cap L Tryz.underlying41 Tryz.underlying5 Tryz.underlying9 fun j hj=>?_
  exact (seg_news hs).2 j _ (by simp [BV,hj])
theorem Rd.grown {w w':World}{b:Nat}{L:List UInt8}(h:Rd w b L)(hg:w.grownBy w' none):Rd w' b L:=by
 obtain ⟨s,h1,h2⟩:=h
 exact ⟨s,h1.kept hg (by simp),h2.grown hg⟩
theorem Rd.kept {w w':World}{b c:Nat}{L M:List UInt8}(h:Rd w b L)(hr:Rd w c M)(hg:w.grownBy w' (some c))(hne:b≠c):Rd w' b L:=by
 obtain ⟨s,h1,h2⟩:=h
 obtain ⟨t,h3,h4⟩:=hr
 obtain ⟨ao,cap,rfl⟩:=h4.shape
 exact ⟨s,h1.kept hg (by simp;omega),h2.grownR h3 hg⟩
theorem left21 (b:Nat)(L:List UInt8)(w:World)(hr:Rd w b L):Calls Tryz.prog 208 #[.pointer (some ⟨b,0,none⟩)] w fun e w'=>e=.returned (.int .i64 L.length)/\w'=w:=by
 obtain ⟨s,h1,h2⟩:=hr
 exact left_any b true s L w h1 h2
def RfB (w:World)(d:Nat)(sv:Value)(at_:Nat):Prop:=w.heap[d]? = some (.cells #[sv,.int .i64 at_] 205 (0,0))
theorem RfB.cell0 {w:World}{d:Nat}{sv:Value}{k:Nat}(h:RfB w d sv k):w.cell? ⟨d,0,none⟩=some sv:=by rw [cell_of_row w d 0 _ _ _ h];rfl
theorem RfB.cell1 {w:World}{d:Nat}{sv:Value}{k:Nat}(h:RfB w d sv k):w.cell? ⟨d,1,none⟩=some (.int .i64 k):=by rw [cell_of_row w d 1 _ _ _ h];rfl
theorem RfB.free {w:World}{d:Nat}{sv:Value}{k:Nat}(h:RfB w d sv k)(j:Nat):w.frozen? ⟨d,j,none⟩=false:=frozen_of_row w d j _ _ h
theorem RfB.store {w:World}{d:Nat}{sv:Value}{k:Nat}(h:RfB w d sv k)(m:Nat):RfB (w.setCell ⟨d,1,none⟩ (.int .i64 m)) d sv m:=heap_setCell_same w d 1 _ _ (.int .i64 m) h
theorem RfB.lt {w:World}{d:Nat}{sv:Value}{k:Nat}(h:RfB w d sv k):d<w.heap.size:=(Array.getElem?_eq_some_iff.1 h).1
theorem RfB.kept {w w':World}{d:Nat}{sv:Value}{k:Nat}{r:Option Nat}(h:RfB w d sv k)(hg:w.grownBy w' r)(hr:r≠some d):RfB w' d sv k :=
 (hg.block d h.lt (fun e=>hr e.symm)).trans h
theorem grown_drewN (w:World)(q:Nat)(r:Option Nat):w.grownBy (w.drewN q) r:=⟨rfl,rfl,rfl,Nat.le_refl _,fun _ _ _=>rfl⟩
theorem Seg.grownF {w w':World}{v:Value}{L:List UInt8}{d:Nat}{ao:Option Addr}{n c k:Nat}(h:Seg w v L)(hr:RfB w d (.slice ao n c) k)(hg:w.grownBy w' (some d)):Seg w' v L:=by
 refine h.of_cells fun b j x hc=>hg.cell hc ?_
 intro e
 simp at e;subst e
 rw [cell_of_row w _ _ _ _ _ hr] at hc
 match j,hc with
 | 0,hc=>simp at hc
 | 1,hc=>simp at hc
 | j+2,hc=>simp at hc
theorem left22 (d:Nat)(ao:Option Addr)(cap k:Nat)(L:List UInt8)(w:World)(hr:RfB w d (.slice ao L.length cap) k)(hk:k<=L.length)(hl:L.length<=9223372036854775807) :
  Calls Tryz.prog 188 #[.pointer (some ⟨d,0,none⟩)] w fun e w'=>e=.returned (.int .i64 ((L.length-k:Nat):Int))/\∃q,w'=w.drewN q:=by
 have h0:=hr.cell0
 have h1:=hr.cell1
 have e:Hid ((L.length:Int)-(k:Int)=((L.length-k:Nat):Int)):=by unfold Hid;omega
 have hi:IntKind.i64.wrap ((L.length:Int)-(k:Int))=(L.length:Int)-(k:Int):=by
  simp only [IntKind.wrap,IntKind.bits,IntKind.signed]
  simp
  omega
 clear hr
 go_enter Tryz.func188,Tryz.ntmps188
 go_wp2
 go_quiet (fail)
 go_wp2_with fail
 go_ret
 exact ⟨by rw [<-e.out];rfl,nq,rfl⟩
theorem scan_stepD (L:List UInt8)(k p acc:Nat)(h:k+p<L.length):scan p acc ((L.drop k).drop p)=if (0<p/\L[k+p].toNat=0)\/(p=9/\1<L[k+p].toNat) then none else
   if L[k+p].toNat<128 then some (acc+(L[k+p].toNat % 128)*2 ^ (7*p),p+1) else scan (p+1) (acc+(L[k+p].toNat % 128)*2 ^ (7*p)) ((L.drop k).drop (p+1)):=by
 have h1:=scan_step (L.drop k) p acc (by simp;omega)
 simpa using h1
def Dr (w w':World):Prop:=∃q,w'=w.drewN q
theorem Dr.more {w w':World}(h:Dr w w')(n:Nat):Dr w (w'.drewN n):=by
 obtain ⟨q,rfl⟩:=h;exact ⟨q+n,World.drewN_drewN _ _ _⟩
theorem Dr.of (w:World)(n:Nat):Dr w (w.drewN n):=⟨n,rfl⟩
theorem wrap_digit2 (acc p c:Nat)(h:acc+c % 128*2 ^ (7*p)<2 ^ 64):IntKind.u64.wrap ((acc:Int)+IntKind.u64.wrap ((c:Int) % 128*2 ^ (7*p)))=((acc+c % 128*2 ^ (7*p):Nat):Int):=by
 have h1:=wrap_digit acc p c h
 rw [Nat.mul_comm p 7] at h1
 exact h1
theorem number39_none (d:Nat)(ao:Option Addr)(cap k:Nat)(L:List UInt8)(w:World)(hr:RfB w d (.slice ao L.length cap) k)(hs:Seg w (.slice ao L.length cap) L)(hk:k<=L.length)(hn:scan 0 0 (L.drop k)=none) :
  Calls Tryz.prog 161 #[.pointer (some ⟨d,0,none⟩)] w fun e w'=>e=.returned (.tuple #[.int .u64 0,.int .i64 4])/\Dr w w':=by
 have hlen:=hs.len
 have h0:=hr.cell0
 have h1:=hr.cell1
 have hfz:=hr.free 1
 have HN:Hid (scan 0 0 (L.drop k)=none):=hn
 obtain ⟨_,_,hv,_,_,_,h4⟩:=hs
 simp at hv
 obtain ⟨rfl,rfl⟩:=hv
 have H4:Hid _:=h4
 clear hn h4 hr
 go_enter Tryz.func161,Tryz.ntmps161
 go_wp2
 go_loopw [4,5] (fun x i wq=>∃p acc:Nat,p<=9/\k+p<=L.length/\i=.int .i64 p/\x=.int .u64 acc/\Dr w wq/\Hid (scan p acc ((L.drop k).drop p)=none)/\Hid (acc<2 ^ (7*p))) (fun _ i _=>L.length-(intOf i).toNat)
 case atStart=>exact ⟨0,0,by omega,by omega,rfl,rfl,Dr.of w 0,by simpa using HN,by simp [Hid]⟩
 case round =>
  obtain ⟨p,acc,hp9,hpl,rfl,rfl,⟨q,rfl⟩,Hs,HA⟩:=hrel
  have i1:(p:Int)<10:=by omega
  have wr1:IntKind.i64.wrap ((k:Int)+(p:Int))=(k:Int)+(p:Int):=by
   simp only [IntKind.wrap,IntKind.bits,IntKind.signed];simp;omega
  by_cases hlt:k+p<L.length
  ·have i2:(k:Int)+(p:Int)<(L.length:Int):=by omega
   have i3:(0:Int)<=(k:Int)+(p:Int):=by omega
   obtain ⟨bb,off,rfl,hcell⟩:=H4.out (k+p) hlt
   have hstep:=scan_stepD L k p acc hlt
   obtain ⟨c,hc⟩:∃c:Nat,c=L[k+p].toNat:=⟨_,rfl⟩
   have hc256:c<256:=by rw [hc];exact L[k+p].toNat_lt
   rw [<-hc] at hcell hstep
   rw [Hs.out] at hstep
   have HST:Hid _:=hstep
   have tn:((k:Int)+(p:Int)).toNat=k+p:=by omega
   clear hstep hc
   by_cases cc:(0<p/\c=0)\/(p=9/\1<c)
   ·have cases2:(9<=p/\1<c)\/(0<p/\p<=8/\c<=0)\/(9<=p/\c<=0):=by omega
    clear cc HST
    rcases cases2 with ⟨e1,e2⟩ | ⟨e1,e2,e3⟩ | ⟨e1,e2⟩
    rotate_left 2
    ·obtain rfl:p=9:=by omega
     obtain rfl:c=0:=by omega
     go_wp2_with fail
     go_quiet (fail)
     go_wp2_with fail
     go_quiet (fail)
     go_wp2_with fail
     go_ret2
     exact ⟨rfl,by first | exact Dr.of w _ | exact ((Dr.of w q).more _).more _⟩
    all_goals
     go_wp2_with fail
     go_quiet (fail)
     go_wp2_with fail
     go_quiet (fail)
     go_wp2_with fail
     go_ret2
     exact ⟨rfl,by first | exact Dr.of w _ | exact ((Dr.of w q).more _).more _⟩
   ·have hst:=HST.out
    rw [if_neg cc] at hst
    by_cases c3:c<128
    ·rw [if_pos c3] at hst;cases hst
    ·rw [if_neg c3] at hst
     have HST2:Hid _:=hst
     clear HST hst
     have hd:=digit_lt acc p c hp9 HA.out (by omega)
     have HW:Hid _:=wrap_digit2 acc p c hd.1
     have HD:Hid _:=hd
     have c0:128<=c:=by omega
     have p9:p<=8:=by omega
     clear hd
     by_cases d1:0<p
     all_goals
      go_wp2_with fail
      go_quiet (fail)
      go_wp2_with fail
      go_quiet (fail)
      go_wp2_with fail
      go_roundw
      case rel=>exact ⟨p+1,_,by omega,by omega,by go_num,by rw [HW.out],by first | exact Dr.of w _ | exact ((Dr.of w q).more _).more _,HST2.out.symm,HD.out.2⟩
      case measure=>simp [intOf];omega
  ·have i2:decide ((k:Int)+(p:Int)<(L.length:Int))=false:=by simp;omega
   go_wp2_with fail
   go_quiet (fail)
   go_wp2_with fail
   go_ret2
   exact ⟨rfl,by first | exact Dr.of w _ | exact (Dr.of w q).more _⟩
theorem number39_some (d:Nat)(ao:Option Addr)(cap k:Nat)(L:List UInt8)(n m:Nat)(w:World)(hr:RfB w d (.slice ao L.length cap) k)(hs:Seg w (.slice ao L.length cap) L)(hk:k<=L.length)(hn:scan 0 0 (L.drop k)=some (n,m)) :
  Calls Tryz.prog 161 #[.pointer (some ⟨d,0,none⟩)] w fun e w'=>e=.returned (.tuple #[.int .u64 n,.int .i64 0])/\∃q,w'=(w.drewN q).setCell ⟨d,1,none⟩ (.int .i64 ((k+m:Nat):Int)):=by
 have hlen:=hs.len
 have h0:=hr.cell0
 have h1:=hr.cell1
 have hfz:=hr.free 1
 have HN:Hid (scan 0 0 (L.drop k)=some (n,m)):=hn
 obtain ⟨_,_,hv,_,_,_,h4⟩:=hs
 simp at hv
 obtain ⟨rfl,rfl⟩:=hv
 have H4:Hid _:=h4
 clear hn h4 hr
 go_enter Tryz.func161,Tryz.ntmps161
 go_wp2
 go_loopw [4,5] (fun x i wq=>∃p acc:Nat,p<=9/\k+p<=L.length/\i=.int .i64 p/\x=.int .u64 acc/\Dr w wq/\Hid (scan p acc ((L.drop k).drop p)=some (n,m))/\Hid (acc<2 ^ (7*p))) (fun _ i _=>L.length-(intOf i).toNat)
 case atStart=>exact ⟨0,0,by omega,by omega,rfl,rfl,Dr.of w 0,by simpa using HN,by simp [Hid]⟩
 case round =>
  obtain ⟨p,acc,hp9,hpl,rfl,rfl,⟨q,rfl⟩,Hs,HA⟩:=hrel
  have i1:(p:Int)<10:=by omega
  have wr1:IntKind.i64.wrap ((k:Int)+(p:Int))=(k:Int)+(p:Int):=by
   simp only [IntKind.wrap,IntKind.bits,IntKind.signed];simp;omega
  by_cases hlt:k+p<L.length
  ·have i2:(k:Int)+(p:Int)<(L.length:Int):=by omega
   have i3:(0:Int)<=(k:Int)+(p:Int):=by omega
   obtain ⟨bb,off,rfl,hcell⟩:=H4.out (k+p) hlt
   have hstep:=scan_stepD L k p acc hlt
   obtain ⟨c,hc⟩:∃c:Nat,c=L[k+p].toNat:=⟨_,rfl⟩
   have hc256:c<256:=by rw [hc];exact L[k+p].toNat_lt
   rw [<-hc] at hcell hstep
   rw [Hs.out] at hstep
   have HST:Hid _:=hstep
   have tn:((k:Int)+(p:Int)).toNat=k+p:=by omega
   clear hstep hc
   have cc:¬((0<p/\c=0)\/(p=9/\1<c)):=by
    intro cc
    have:=HST.out
    rw [if_pos cc] at this;cases this
   have hst:=HST.out
   rw [if_neg cc] at hst
   clear HST
   by_cases c3:c<128
   ·rw [if_pos c3] at hst
    simp only [Option.some.injEq,Prod.mk.injEq] at hst
    have E1:Hid _:=hst.1
    have E2:Hid _:=hst.2
    have hd:=digit_lt acc p c hp9 HA.out (by omega)
    have HW:Hid _:=wrap_digit2 acc p c hd.1
    have HD:Hid _:=hd
    have wr2:IntKind.i64.wrap ((k:Int)+(p:Int)+1)=(k:Int)+(p:Int)+1:=by
     simp only [IntKind.wrap,IntKind.bits,IntKind.signed];simp;omega
    have cases3:(p<=0)\/(0<p/\p<=8/\0<c)\/(0<p/\9<=p/\0<c/\c<=1):=by omega
    clear hst hd cc
    rcases cases3 with z1 | ⟨z1,z2,z3⟩ | ⟨z1,z2,z3,z4⟩
    rotate_left 2
    ·obtain rfl:p=9:=by omega
     obtain rfl:c=1:=by omega
     go_wp2_with fail
     go_quiet (fail)
     go_wp2_with fail
     go_quiet (fail)
     go_wp2_with fail
     go_ret2
     have e3:((k+m:Nat):Int)=(k:Int)+9+1:=by rw [E2.out];omega
     rw [e3]
     refine ⟨?_,⟨_,rfl⟩⟩
     rw [E1.out]
     have h9:=wrap_nine acc 9 1 rfl HD.out.1
     exact ret_two h9
    all_goals
     go_wp2_with fail
     go_quiet (fail)
     go_wp2_with fail
     go_quiet (fail)
     go_wp2_with fail
     go_ret2
     have e3:((k+m:Nat):Int)=(k:Int)+(p:Int)+1:=by rw [E2.out];omega
     rw [e3]
     refine ⟨?_,⟨_,rfl⟩⟩
     rw [E1.out]
     first | exact ret_two (HW.out) | exact ret_two (wrap_nine acc p c (by omega) HD.out.1)
   ·rw [if_neg c3] at hst
    have HST2:Hid _:=hst
    clear hst
    have hd:=digit_lt acc p c hp9 HA.out (by omega)
    have HW:Hid _:=wrap_digit2 acc p c hd.1
    have HD:Hid _:=hd
    have c0:128<=c:=by omega
    have p9:p<=8:=by omega
    clear hd
    by_cases d1:0<p
    all_goals
     go_wp2_with fail
     go_quiet (fail)
     go_wp2_with fail
     go_quiet (fail)
     go_wp2_with fail
     go_roundw
     case rel=>exact ⟨p+1,_,by omega,by omega,by go_num,by rw [HW.out],by first | exact Dr.of w _ | exact ((Dr.of w q).more _).more _,HST2.out.symm,HD.out.2⟩
     case measure=>simp [intOf];omega
  ·have:=Hs.out
   rw [List.drop_eq_nil_of_le (by simp;omega)] at this
   cases this
section
variable {P:Program} {ops:Array Oper} {Q:Exit->Act->World->Prop} {md:Region.Mode}
def wpGrow (P:Program)(md:Region.Mode)(ops:Array Oper)(Q:Exit->Act->World->Prop):Nat->Array Bool->Act->World->Prop
 | 0,listed,a,w=>Region.ready md ops listed=[]/\Q .normal a w
 | n+1,listed,a,w=>(Region.ready md ops listed=[]->Q .normal a w) ∧
   ∀i ∈ Region.ready md ops listed,wpOp P ops Q i (fun a' w'=>w.grownBy w' none/\wpGrow P md ops Q n (listed.setIfInBounds i true) a' w') a w
theorem wpAny_of_grow:∀(n:Nat) (listed:Array Bool) (a:Act) (w:World),wpGrow P md ops Q n listed a w->wpAny P md ops Q n listed a w
 | 0,_,_,_,h=>h
 | n+1,_,_,_,h=>⟨h.1,fun i hi=>wpOp_mono (fun a' w' h'=>wpAny_of_grow n _ a' w' h'.2) (h.2 i hi)⟩
theorem grow_trans {a b c:World}(h:a.grownBy b none)(k:b.grownBy c none):a.grownBy c none :=
 ⟨k.os.trans h.os,k.tape.trans h.tape,k.output.trans h.output,Nat.le_trans h.size k.size,fun i hi hr=>(k.block i (Nat.lt_of_lt_of_le hi h.size) hr).trans (h.block i hi hr)⟩
theorem yields_later {o:Oper}{v:Value}{a:Act}{w w':World}(hy:YieldsIf P ops (fun x=>w.grownBy x none) o v a)(h:w.grownBy w' none):YieldsIf P ops (fun x=>w'.grownBy x none) o v a :=
 hy.imp (fun ⟨h1,h2⟩=>⟨h1,fun x hx=>h2 x (grow_trans h hx)⟩) id
theorem wpGrow_first {i:Nat}{oi:Oper}{v:Value}(hi:ops[i]? = some oi)(hsel:∀(j:Nat) (o:Oper) cs b,ops[j]? = some o->o.op≠.select cs b)
  (hQ:∀c a w,Q (.panic c) (a.put oi.dst v) w->Q (.panic c) a w) :
  ∀(n:Nat) (listed:Array Bool) (a:Act) (w:World),
   (∀j oj,ops[j]? = some oj->j≠i->listed.getD j true=false->(∀e ∈ oj.after,Region.binds md e=true->e.on≠i)->oi.apart ops oj=true) →
   i ∈ Region.ready md ops listed->YieldsIf P ops (fun x=>w.grownBy x none) oi v a →
   wpGrow P md ops Q n (listed.setIfInBounds i true) (a.put oi.dst v) w->wpGrow P md ops Q (n+1) listed a w:=by
 intro n
 have self:∀w:World,w.grownBy w none:=fun w=>⟨rfl,rfl,rfl,Nat.le_refl _,fun _ _ _=>rfl⟩
 induction n with
 | zero =>
  intro listed a w _ hr hy H
  refine ⟨fun h=>(by rw [h] at hr;cases hr),fun j hj=>?_⟩
  by_cases hji:j=i
  ·subst hji;exact hy.wpOp hi (self w) ⟨self w,H⟩
  ·have h0:=ready_mono hj hji
   rw [H.1] at h0
   cases h0
 | succ n ih =>
  intro listed a w hfree hr hy H
  refine ⟨fun h=>(by rw [h] at hr;cases hr),fun j hj=>?_⟩
  by_cases hji:j=i
  ·subst hji;exact hy.wpOp hi (self w) ⟨self w,H⟩
  ·have h1:=H.2 j (ready_mono hj hji)
   obtain ⟨hjun,oj,hoj,hall⟩:=mem_ready.1 hj
   have hnot:∀e ∈ oj.after,Region.binds md e=true->e.on≠i:=fun e he hb heq=>by
    have h2:=hall e he hb
    have h0:=(mem_ready.1 hr).1
    rw [heq] at h2
    rcases Nat.lt_or_ge i listed.size with h' | h'
    ·simp [h'] at h0 h2;rw [h0] at h2;cases h2
    ·simp [Array.getElem?_eq_none h'] at h2
   have h2:=wpOp_putIf hoj (hfree j oj hoj hji hjun hnot) (fun cs b=>hsel i oi cs b hi) (fun cs b=>hsel j oj cs b hoj) hQ hy h1
   have hfree':∀k ok,ops[k]? = some ok->k≠i->(listed.setIfInBounds j true).getD k true=false →
     (∀e ∈ ok.after,Region.binds md e=true->e.on≠i)->oi.apart ops ok=true:=fun k ok hk hki hun hno=>by
    refine hfree k ok hk hki ?_ hno
    by_cases hjk:j=k
    ·subst hjk;exact hjun
    ·rw [getD_set_ne true hjk] at hun;exact hun
   refine wpOp_mono (fun a' w' h3=>⟨h3.2.1,ih (listed.setIfInBounds j true) a' w' hfree' (ready_mono hr (Ne.symm hji)) (yields_later h3.1 h3.2.1) ?_⟩) h2
   rw [Array.setIfInBounds_comm _ _ hji]
   exact h3.2.2
theorem get_of_drop {i:Nat}{oi:Oper}{l:List Oper}(h:ops.toList.drop i=oi :: l):ops[i]? = some oi:=by
 have h1:(ops.toList.drop i)[0]? = some oi:=by rw [h];rfl
 rw [List.getElem?_drop] at h1
 simpa using h1
theorem wpGrow_take {i:Nat}{oi:Oper}{l:List Oper}{d:Option Tmp}{v:Value}{n:Nat}{listed:Array Bool}{a:Act}{w:World}(hi:ops.toList.drop i=oi :: l)(hd:oi.dst=d)
  (hs:Region.noSelect ops=true) (hf:Region.free md ops listed i=true) (hr:(Region.ready md ops listed).contains i=true)
  (hQ:∀c a w,Q (.panic c) (a.put d v) w->Q (.panic c) a w) (hw:Region.wanted oi (yielded ops a.tmps)=true) (hy:∀x:World,w.grownBy x none->(execOp a.eval oi).run P x=.ok (.value v) x)
  (h:wpGrow P md ops Q n (listed.setIfInBounds i true) (a.put d v) w):wpGrow P md ops Q (n+1) listed a w:=by
 subst hd
 exact wpGrow_first (get_of_drop hi) (Region.noSelect_spec hs) hQ n listed a w (Region.free_spec (get_of_drop hi) hf) (by simpa using hr) (.inl ⟨hw,hy⟩) h
theorem wpGrow_one {i:Nat}{oi:Oper}{l:List Oper}{n:Nat}{listed:Array Bool}{a:Act}{w:World}(hi:ops.toList.drop i=oi :: l)(hr:Region.ready md ops listed=[i])(hw:Region.wanted oi (yielded ops a.tmps)=true)
  (h:∀K:Act->World->Prop,Shut (∀a' w',w.grownBy w' none->wpGrow P md ops Q n (listed.setIfInBounds i true) a' w'->K a' w')->Oper.wp P oi a w K Q):wpGrow P md ops Q (n+1) listed a w:=by
 refine ⟨fun h0=>(by rw [hr] at h0;cases h0),fun j hj=>?_⟩
 rw [hr] at hj
 have e:j=i:=by simpa using hj
 subst e
 refine wpOp_step (get_of_drop hi) fun K hK=>?_
 rw [if_pos hw]
 exact h K fun a' w' h1 h2=>hK a' w' ⟨h1,h2⟩
theorem wpGrow_done {n:Nat}{listed:Array Bool}{a:Act}{w:World}(hr:Region.ready md ops listed=[])(h:Q .normal a w):wpGrow P md ops Q n listed a w:=by
 cases n with
 | zero=>exact ⟨hr,h⟩
 | succ n=>exact ⟨fun _=>h,by rw [hr];simp⟩
theorem wp_region_grow {id:Nat}{a:Act}{w:World}(hm:P.follows .mixedOrders=true)(h:wpGrow P .any ops Q ops.size (Array.replicate ops.size false) a w.drew):(Code.region id ops true).wp P Q a w :=
 wp_region_any hm (wpAny_of_grow _ _ _ _ h)
end
attribute [local go_sem ↓] Go.wp_at_zero Go.wp_at_succ
def RfPost (d:Nat)(sv:Value)(L M:List UInt8)(w w':World):Prop:=∃k',k'<=L.length/\L.drop k'=M/\RfB w' d sv k'/\w.grownBy w' (some d)
theorem number39 (d:Nat)(ao:Option Addr)(cap k:Nat)(L:List UInt8)(w:World)(hr:RfB w d (.slice ao L.length cap) k)(hs:Seg w (.slice ao L.length cap) L)(hk:k<=L.length) :
  Calls Tryz.prog 161 #[.pointer (some ⟨d,0,none⟩)] w fun e w'=>e=.returned (.tuple #[.int .u64 (rdNum (L.drop k)).1,.int .i64 (rdNum (L.drop k)).2.1])/\RfPost d (.slice ao L.length cap) L (rdNum (L.drop k)).2.2 w w':=by
 cases h:scan 0 0 (L.drop k) with
 | none =>
  rw [rdNum_none h]
  refine (number39_none d ao cap k L w hr hs hk h).mono ?_
  rintro e w' ⟨rfl,q,rfl⟩
  exact ⟨rfl,k,hk,rfl,hr.kept (grown_drewN w q none) (by simp),grown_drewN w q _⟩
 | some x =>
  obtain ⟨n,m⟩:=x
  rw [rdNum_some h]
  refine (number39_some d ao cap k L n m w hr hs hk h).mono ?_
  rintro e w' ⟨rfl,q,rfl⟩
  have hb:=scan_bound (L.drop k) 0 0 (by omega) (by simp) n m h
  refine ⟨rfl,k+m,?_,?_,RfB.store (hr.kept (grown_drewN w q none) (by simp)) (k+m),grown_trans (grown_drewN w q _) (grown_setCell _ d 1 _)⟩
  ·simp at hb;omega
  ·simp [List.drop_drop]
theorem flag41 (d:Nat)(ao:Option Addr)(cap k:Nat)(L:List UInt8)(w:World)(hr:RfB w d (.slice ao L.length cap) k)(hs:Seg w (.slice ao L.length cap) L)(hk:k<=L.length) :
  Calls Tryz.prog 162 #[.pointer (some ⟨d,0,none⟩)] w fun e w'=>e=.returned (.tuple #[.bool (rdFlag (L.drop k)).1,.int .i64 (rdFlag (L.drop k)).2.1])/\RfPost d (.slice ao L.length cap) L (rdFlag (L.drop k)).2.2 w w':=by
 have hlen:=hs.len
 have h0:=hr.cell0
 have h1:=hr.cell1
 have hfz:=hr.free 1
 have HR:Hid (RfB w d (.slice ao L.length cap) k):=hr
 have HL:Hid (∀n,Calls Tryz.prog 188 #[.pointer (some ⟨d,0,none⟩)] (w.drewN n) fun e w''=>e=.returned (.int .i64 ((L.length-k:Nat):Int))/\∃m,w''=w.drewN m):=fun n =>
  (left22 d ao cap k L (w.drewN n) (hr.kept (grown_drewN w n none) (by simp)) hk hlen).mono (fun e w' ⟨he,q,hq⟩=>⟨he,n+q,by rw [hq,World.drewN_drewN]⟩)
 by_cases hM:k=L.length
 ·have e1:L.drop k=[]:=List.drop_eq_nil_of_le (by omega)
  rw [e1]
  have z:((L.length-k:Nat):Int)=0:=by omega
  rw [z] at HL
  clear hr hs
  go_enter Tryz.func162,Tryz.ntmps162
  go_wp2_with fail
  go_quiet ((go_at_call 188;exact HL.out _))
  go_wp2_with fail
  go_ret2
  exact ⟨rfl,k,hk,e1,HR.out.kept (grown_drewN w _ none) (by simp),grown_drewN w _ _⟩
 ·have hlt:k<L.length:=by omega
  obtain ⟨_,_,hv,_,_,_,h4⟩:=hs
  simp at hv
  obtain ⟨rfl,rfl⟩:=hv
  obtain ⟨bb,off,rfl,hcell⟩:=h4 k hlt
  have e1:L.drop k=L[k] :: L.drop (k+1):=List.drop_eq_getElem_cons hlt
  obtain ⟨c,hc⟩:∃c:UInt8,L[k]=c:=⟨_,rfl⟩
  rw [hc] at hcell e1
  obtain ⟨x,hx⟩:∃x:Nat,c.toNat=x:=⟨_,rfl⟩
  rw [hx] at hcell
  have nz:((((L.length-k:Nat):Int))==0)=false:=by simp;omega
  have i1:(0:Int)<=(k:Int):=by omega
  have i2:(k:Int)<(L.length:Int):=by omega
  have E1:Hid _:=e1
  have HX:Hid _:=hx
  obtain ⟨df,hdf⟩:∃df:Int,((L.length-k:Nat):Int)=df:=⟨_,rfl⟩
  rw [hdf] at HL nz
  rw [e1]
  clear hr h4 e1 hc hx hM hdf
  by_cases hbig:1<x
  ·have e2:rdFlag (c :: L.drop (k+1))=(false,4,c :: L.drop (k+1)):=by simp [rdFlag,HX.out,hbig]
   rw [e2]
   clear e2
   have b1:decide ((1:Int)<(x:Int))=true:=by simp;omega
   go_enter Tryz.func162,Tryz.ntmps162
   go_wp2_with fail
   go_quiet ((go_at_call 188;exact HL.out _))
   go_wp2_with fail
   go_ret2
   exact ⟨rfl,k,hk,E1.out,RfB.kept HR.out (grown_drewN w _ none) (by simp),grown_drewN w _ _⟩
  ·have e2:rdFlag (c :: L.drop (k+1))=(x==1,0,L.drop (k+1)):=by simp [rdFlag,HX.out,hbig]
   rw [e2]
   clear e2
   have b1:decide ((1:Int)<(x:Int))=false:=by simp;omega
   have wr1:IntKind.i64.wrap ((k:Int)+1)=(k:Int)+1:=by
    simp only [IntKind.wrap,IntKind.bits,IntKind.signed];simp;omega
   have wr2:IntKind.i64.wrap ((k:Int)+1-1)=(k:Int):=by
    simp only [IntKind.wrap,IntKind.bits,IntKind.signed];simp;omega
   have wr3:IntKind.i64.wrap (k:Int)=(k:Int):=by
    simp only [IntKind.wrap,IntKind.bits,IntKind.signed];simp;omega
   have hcd:Hid (bb≠d):=by
    intro e
    subst e
    have q:=cell_of_row w bb (off+k) _ _ _ HR.out
    rw [hcell] at q
    generalize off+k=z at q
    match z,q with
    | 0,q=>simp at q
    | 1,q=>simp at q
    | z+2,q=>simp at q
   go_enter Tryz.func162,Tryz.ntmps162
   go_wp2_with fail
   go_quiet ((go_at_call 188;exact HL.out _))
   go_wp2_with fail
   have hw1:Hid (RfB ((w.drewN nq).setCell ⟨d,1,none⟩ (.int .i64 ((k+1:Nat):Int))) d (.slice (some ⟨bb,off,none⟩) L.length cap) (k+1)/\w.grownBy ((w.drewN nq).setCell ⟨d,1,none⟩ (.int .i64 ((k+1:Nat):Int))) (some d)) :=
    ⟨RfB.store (RfB.kept HR.out (grown_drewN w nq none) (by simp)) (k+1),grown_trans (grown_drewN w _ _) (grown_setCell _ d 1 _)⟩
   have e5:((k+1:Nat):Int)=(k:Int)+1:=by omega
   rw [e5] at hw1
   obtain ⟨wz,hwz⟩:∃wz,(w.drewN nq).setCell ⟨d,1,none⟩ (.int .i64 ((k:Int)+1))=wz:=⟨_,rfl⟩
   rw [hwz] at hw1 ⊢
   have f0:=RfB.cell0 hw1.out.1
   have f1:wz.cell? ⟨d,1,none⟩=some (.int .i64 ((k:Int)+1)):=by
    have h:=RfB.cell1 hw1.out.1
    rw [e5] at h;exact h
   have f2:wz.cell? ⟨bb,off+k,none⟩=some (.int .u8 x):=hw1.out.2.cell hcell (by have:=hcd.out;simp;exact this)
   clear hwz h0 h1 hfz hcell HL e5
   go_quiet (fail)
   go_wp2_with fail
   go_ret2
   refine ⟨ret_flag (by rw [Bool.eq_iff_iff];simp;omega),k+1,by omega,rfl,RfB.kept hw1.out.1 (grown_drewN wz _ none) (by simp),grown_trans hw1.out.2 (grown_drewN wz _ _)⟩
attribute [local go_sem ↓] Go.wp_at_zero Go.wp_at_succ
theorem seg_mid2 {w:World}{ao:Option Addr}{cap:Nat}{L:List UInt8}(k m:Nat)(hm:k+m<=L.length)(h:Seg w (.slice ao L.length cap) L):Seg w (.slice (Option.map (fun x=>x.add k) ao) m (cap-k)) ((L.drop k).take m):=by
 have h1:=seg_drop k (by omega) h
 have e:L.length-k=(L.drop k).length:=by simp
 rw [e] at h1
 exact seg_take m (by simp;omega) h1
theorem seg_mid_end2 {w:World}{ao:Option Addr}{cap:Nat}{L:List UInt8}(k:Nat)(hm:k<=L.length)(hc:cap=k)(h:Seg w (.slice ao L.length cap) L):Seg w (.slice ao 0 0) []:=by
 have h1:=seg_drop_all k hm hc h
 obtain ⟨ao',cap',hv,h3,_⟩:=h
 simp at hv
 have e:L.length=k:=by omega
 have e2:L.drop k=[]:=List.drop_eq_nil_of_le (by omega)
 rw [e2] at h1
 rw [show L.length-k=0 by omega] at h1
 exact h1
theorem app23_wp {o:Oper}{a:Act}{K:Act->World->Prop}{Q:Exit->Act->World->Prop}(w:World)(s x:Operand)
  (ho:o.op=.call { callee:=.builtin .append,args:=#[s,x],argTypes:=#[41,41] })
  (B:Nat) (v:Value) (L:List UInt8) (u:Value) (M:List UInt8) (hs:a.eval s=v) (hx:a.eval x=u) (hown:Own w B v L) (hseg:Seg w u M) (hb:L.length+M.length<=140737488355328) (hB:B<=w.heap.size)
  (h:∀v' w',Own w' B v' (L ++ M)->w.grownBy w' v.ownBlock->K (a.put o.dst v') w'):o.wp Tryz.prog a w K Q:=by
 obtain ⟨i0,hi,hz0,hz1,hz2⟩:=info_parts Tryz.info5
 have hsg:=hseg
 obtain ⟨ao,cap,rfl,h1,h2,h3,h4⟩:=hsg
 cases ao with
 | none =>
  have hM0:M=[]:=List.eq_nil_of_length_eq_zero (by have:=h3 rfl;omega)
  have hc0:cap=0:=h3 rfl
  subst hM0;subst hc0
  have hrun:=run_append_owned_none (P:=Tryz.prog) (w:=w) B 41 o.type 5 i0 1 Tryz.underlying41 hi v _ _ hown
  have hx':a.eval x=.slice none 0 0:=hx
  unfold Oper.wp
  simp only [execOp,ho,resolve,invoke,builtin,Sem.run_bind,Sem.run_pure,Result.andThen_ok,List.map_toArray,List.map_cons,List.map_nil,hs,hx',hrun]
  exact h v w (by simpa using hown) (grown_refl _ _)
 | some ad =>
  obtain ⟨_,hnews⟩:=seg_news hseg
  refine wp_append_own w s x 41 ho B 5 i0 (.int .u8 0) 1 1 Tryz.underlying41 hi hz0 hz1 hz2 rfl (by decide) v L.length (BV L) hs hown ad M.length cap (BV M) hx (by simp [BV]) hnews (BV_one M) (by unfold maxLen;omega) (by omega) hB ?_
  intro v' w' h1 h2 _
  exact h v' w' (by unfold Own;rw [BV_append,List.length_append];exact h1) h2
section
variable (d:Nat) (ao:Option Addr) (cap k:Nat) (L:List UInt8) (most:Int) (w:World)
theorem bytes42_none (hr:RfB w d (.slice ao L.length cap) k)(hs:Seg w (.slice ao L.length cap) L)(hk:k<=L.length)(hn:scan 0 0 (L.drop k)=none) :
  Calls Tryz.prog 163 #[.pointer (some ⟨d,0,none⟩),.int .i64 most] w fun e w'=>e=.returned (.tuple #[.slice none 0 0,.int .i64 4])/\RfB w' d (.slice ao L.length cap) k/\w.grownBy w' (some d):=by
 have h1:=hr.cell1
 have HC:Hid _:=number39_none d ao cap k L w hr hs hk hn
 have HR:Hid (RfB w d (.slice ao L.length cap) k):=hr
 clear hr hs hn
 go_enter Tryz.func163,Tryz.ntmps163
 go_wp2_with fail
 refine Calls.mono HC.out ?_
 rintro e w1 ⟨rfl,q,hq⟩
 have S1:Hid (RfB w1 d (.slice ao L.length cap) k/\w.grownBy w1 (some d)):=by subst hq;exact ⟨RfB.kept HR.out (grown_drewN w q none) (by simp),grown_drewN w q _⟩
 have f1:=RfB.cell1 S1.out.1
 have fz:=RfB.free S1.out.1 1
 clear hq
 go_wp2_with fail
 go_ret2
 exact ⟨rfl,RfB.store S1.out.1 k,grown_trans S1.out.2 (grown_setCell _ d 1 _)⟩
theorem bytes42_long (n m:Nat)(hr:RfB w d (.slice ao L.length cap) k)(hs:Seg w (.slice ao L.length cap) L)(hk:k<=L.length)(h0:0<=most)(hm:most<=9223372036854775807)(hn:scan 0 0 (L.drop k)=some (n,m))(hl:most<(n:Int)) :
  Calls Tryz.prog 163 #[.pointer (some ⟨d,0,none⟩),.int .i64 most] w fun e w'=>e=.returned (.tuple #[.slice none 0 0,.int .i64 3])/\RfB w' d (.slice ao L.length cap) k/\w.grownBy w' (some d):=by
 have h1:=hr.cell1
 have HC:Hid _:=number39_some d ao cap k L n m w hr hs hk hn
 have HR:Hid (RfB w d (.slice ao L.length cap) k):=hr
 have hn64:n<=18446744073709551615:=by have:=(scan_bound _ 0 0 (by omega) (by simp) n m hn).1;omega
 clear hr hs hn
 go_enter Tryz.func163,Tryz.ntmps163
 go_wp2_with fail
 refine Calls.mono HC.out ?_
 rintro e w1 ⟨rfl,q,hq⟩
 have S1:Hid (RfB w1 d (.slice ao L.length cap) (k+m)/\w.grownBy w1 (some d)):=by subst hq;exact ⟨RfB.store (RfB.kept HR.out (grown_drewN w q none) (by simp)) (k+m),grown_trans (grown_drewN w q _) (grown_setCell _ d 1 _)⟩
 have f1:=RfB.cell1 S1.out.1
 have fz:=RfB.free S1.out.1 1
 clear hq
 go_wp2_with fail
 go_ret2
 exact ⟨rfl,RfB.store S1.out.1 k,grown_trans S1.out.2 (grown_setCell _ d 1 _)⟩
theorem bytes42_few (n m:Nat)(hr:RfB w d (.slice ao L.length cap) k)(hs:Seg w (.slice ao L.length cap) L)(hk:k<=L.length)(h0:0<=most)(hm:most<=9223372036854775807)(hn:scan 0 0 (L.drop k)=some (n,m))(hl:¬most<(n:Int))(hf:L.length-(k+m)<n) :
  Calls Tryz.prog 163 #[.pointer (some ⟨d,0,none⟩),.int .i64 most] w fun e w'=>e=.returned (.tuple #[.slice none 0 0,.int .i64 4])/\RfB w' d (.slice ao L.length cap) k/\w.grownBy w' (some d):=by
 have h1:=hr.cell1
 have hlen:=hs.len
 have HC:Hid _:=number39_some d ao cap k L n m w hr hs hk hn
 have HR:Hid (RfB w d (.slice ao L.length cap) k):=hr
 have hb:=scan_bound _ 0 0 (by omega) (by simp) n m hn
 have hkm:k+m<=L.length:=by simp at hb;omega
 clear hr hs hn hb
 obtain ⟨lf,hlf⟩:∃lf:Nat,L.length-(k+m)=lf:=⟨_,rfl⟩
 have hlz:lf<=9223372036854775807:=by omega
 have hfz2:lf<n:=by omega
 go_enter Tryz.func163,Tryz.ntmps163
 go_wp2_with fail
 refine Calls.mono HC.out ?_
 rintro e w1 ⟨rfl,q,hq⟩
 have S1:Hid (RfB w1 d (.slice ao L.length cap) (k+m)/\w.grownBy w1 (some d)):=by subst hq;exact ⟨RfB.store (RfB.kept HR.out (grown_drewN w q none) (by simp)) (k+m),grown_trans (grown_drewN w q _) (grown_setCell _ d 1 _)⟩
 clear hq hf
 go_wp2_with fail
 refine (left22 d ao cap (k+m) L _ S1.out.1 hkm hlen).mono ?_
 rw [hlf]
 rintro e w2 ⟨rfl,q2,hq2⟩
 have S2:Hid (RfB w2 d (.slice ao L.length cap) (k+m)/\w.grownBy w2 (some d)):=by subst hq2;exact ⟨RfB.kept S1.out.1 (grown_drewN w1 q2 none) (by simp),grown_trans S1.out.2 (grown_drewN w1 q2 _)⟩
 have f1:=RfB.cell1 S2.out.1
 have fz:=RfB.free S2.out.1 1
 clear hq2 S1 hlf
 go_wp2_with fail
 go_ret2
 exact ⟨rfl,RfB.store S2.out.1 k,grown_trans S2.out.2 (grown_setCell _ d 1 _)⟩
theorem bytes42_ok (n m:Nat)(hr:RfB w d (.slice ao L.length cap) k)(hs:Seg w (.slice ao L.length cap) L)(hk:k<=L.length)(h0:0<=most)(hm:most<=9223372036854775807)(hn:scan 0 0 (L.drop k)=some (n,m))(hl:¬most<(n:Int))(hf:¬L.length-(k+m)<n)(hz:L.length<=140737488355328) :
  Calls Tryz.prog 163 #[.pointer (some ⟨d,0,none⟩),.int .i64 most] w fun e w'=>∃v,e=.returned (.tuple #[v,.int .i64 0])/\Own w' w.heap.size v ((L.drop (k+m)).take n)/\RfB w' d (.slice ao L.length cap) (k+m+n)/\w.grownBy w' (some d):=by
 have h1:=hr.cell1
 have hlen:=hs.len
 have HC:Hid _:=number39_some d ao cap k L n m w hr hs hk hn
 have HR:Hid (RfB w d (.slice ao L.length cap) k):=hr
 have HS:Hid (Seg w (.slice ao L.length cap) L):=hs
 have HZ:Hid (L.length<=140737488355328):=hz
 have hb:=scan_bound _ 0 0 (by omega) (by simp) n m hn
 have hkm:k+m<=L.length:=by simp at hb;omega
 have hcap:L.length<=cap/\cap<=9223372036854775807:=by
  obtain ⟨ao',cap',hv,q1,q2,_⟩:=hs
  simp at hv;unfold maxLen at q2;omega
 obtain ⟨hcap1,hcap2⟩:=hcap
 obtain ⟨a,ha⟩:∃a,k+m=a:=⟨_,rfl⟩
 rw [ha] at HC hkm hf ⊢
 clear hr hs hn hb ha
 obtain ⟨lf,hlf⟩:∃lf:Nat,L.length-a=lf:=⟨_,rfl⟩
 have hlz:lf<=9223372036854775807:=by omega
 have hfz2:n<=lf:=by omega
 go_enter Tryz.func163,Tryz.ntmps163
 go_wp2_with fail
 refine Calls.mono HC.out ?_
 rintro e w1 ⟨rfl,q,hq⟩
 have S1:Hid (RfB w1 d (.slice ao L.length cap) a/\w.grownBy w1 (some d)):=by subst hq;exact ⟨RfB.store (RfB.kept HR.out (grown_drewN w q none) (by simp)) a,grown_trans (grown_drewN w q _) (grown_setCell _ d 1 _)⟩
 clear hq hf
 go_wp2_with fail
 refine (left22 d ao cap a L _ S1.out.1 hkm hlen).mono ?_
 rw [hlf]
 rintro e w2 ⟨rfl,q2,hq2⟩
 have S2:Hid (RfB w2 d (.slice ao L.length cap) a/\w.grownBy w2 (some d)):=by subst hq2;exact ⟨RfB.kept S1.out.1 (grown_drewN w1 q2 none) (by simp),grown_trans S1.out.2 (grown_drewN w1 q2 _)⟩
 have f1:=RfB.cell1 S2.out.1
 have fz:=RfB.free S2.out.1 1
 have hsum:a+n<=L.length:=by omega
 have wr0:IntKind.i64.wrap (((a:Nat):Int)+(n:Int))=(a:Int)+(n:Int):=by
  simp only [IntKind.wrap,IntKind.bits,IntKind.signed];simp;omega
 have wrn:IntKind.i64.wrap (n:Int)=(n:Int):=by
  simp only [IntKind.wrap,IntKind.bits,IntKind.signed];simp;omega
 clear hq2 S1 hlf
 have wr5:IntKind.i64.wrap ((a:Int)+(n:Int)-(n:Int))=(a:Int):=by
  simp only [IntKind.wrap,IntKind.bits,IntKind.signed];simp;omega
 have wr6:IntKind.i64.wrap (a:Int)=(a:Int):=by
  simp only [IntKind.wrap,IntKind.bits,IntKind.signed];simp;omega
 have i1:(a:Int)<=(a:Int)+(n:Int):=by omega
 have i2:(a:Int)+(n:Int)<=(cap:Int):=by omega
 have i3:(0:Int)<=(a:Int):=by omega
 go_wp2_with fail
 have S3:Hid (RfB (w2.setCell ⟨d,1,none⟩ (.int .i64 ((a+n:Nat):Int))) d (.slice ao L.length cap) (a+n)/\w.grownBy (w2.setCell ⟨d,1,none⟩ (.int .i64 ((a+n:Nat):Int))) (some d)/\Seg (w2.setCell ⟨d,1,none⟩ (.int .i64 ((a+n:Nat):Int))) (.slice ao L.length cap) L) :=
  ⟨RfB.store S2.out.1 (a+n),grown_trans S2.out.2 (grown_setCell _ d 1 _),Seg.grownF HS.out HR.out (grown_trans S2.out.2 (grown_setCell _ d 1 _))⟩
 have e5:((a+n:Nat):Int)=(a:Int)+(n:Int):=by omega
 rw [e5] at S3
 obtain ⟨wz,hwz⟩:∃wz,w2.setCell ⟨d,1,none⟩ (.int .i64 ((a:Int)+(n:Int)))=wz:=⟨_,rfl⟩
 rw [hwz] at S3 ⊢
 have f0:=RfB.cell0 S3.out.1
 have f1:wz.cell? ⟨d,1,none⟩=some (.int .i64 ((a:Int)+(n:Int))):=by
  have h:=RfB.cell1 S3.out.1
  rw [e5] at h;exact h
 have HB:Hid (w.heap.size<=wz.drew.heap.size):=S3.out.2.1.size
 clear hwz e5 fz S2
 by_cases hck:cap=a
 ·obtain rfl:n=0:=by omega
  have HSG:Hid (Seg wz (.slice ao 0 0) ((L.drop a).take 0)):=by
   have h:=seg_mid_end2 a (by omega) hck S3.out.2.2
   simpa [Hid] using h
  have wr7:IntKind.i64.wrap ((a:Int)+0)=(a:Int):=by rw [Int.add_zero];exact wr6
  have wr9:IntKind.i64.wrap 0=0:=by decide
  have wr8:IntKind.i64.wrap ((a:Int)-0)=(a:Int):=by rw [Int.sub_zero];exact wr6
  refine wp_region_noPanic ?_
  refine wp_region_grow (by kernel_rfl) ?_
  refine wpGrow_take (i:=0) (d:=some 52) (v:=?_) rfl rfl (by kernel_rfl) (by kernel_rfl) (by kernel_rfl) (fun _ _ _ h=>h) (by rfl) ?_ ?_
  rotate_left
  ·intro wk hk
   go_simp
   try with_reducible rfl
  try simp only [Act.put,List.setIfInBounds_toArray,List.set_cons_zero,List.set_cons_succ]
  refine wpGrow_take (i:=1) (d:=some 53) (v:=?_) rfl rfl (by kernel_rfl) (by kernel_rfl) (by kernel_rfl) (fun _ _ _ h=>h) (by rfl) ?_ ?_
  rotate_left
  ·intro wk hk
   go_simp
   try with_reducible rfl
  try simp only [Act.put,List.setIfInBounds_toArray,List.set_cons_zero,List.set_cons_succ]
  refine wpGrow_take (i:=2) (d:=some 54) (v:=?_) rfl rfl (by kernel_rfl) (by kernel_rfl) (by kernel_rfl) (fun _ _ _ h=>h) (by rfl) ?_ ?_
  rotate_left
  ·intro wk hk
   go_simp
   try with_reducible rfl
  try simp only [Act.put,List.setIfInBounds_toArray,List.set_cons_zero,List.set_cons_succ]
  refine wpGrow_take (i:=3) (d:=some 55) (v:=?_) rfl rfl (by kernel_rfl) (by kernel_rfl) (by kernel_rfl) (fun _ _ _ h=>h) (by rfl) ?_ ?_
  rotate_left
  ·intro wk hk
   have j0:=hk.cell f0 (by simp)
   have j1:=hk.cell f1 (by simp)
   go_simp
   try with_reducible rfl
  try simp only [Act.put,List.setIfInBounds_toArray,List.set_cons_zero,List.set_cons_succ]
  refine wpGrow_take (i:=4) (d:=some 56) (v:=?_) rfl rfl (by kernel_rfl) (by kernel_rfl) (by kernel_rfl) (fun _ _ _ h=>h) (by rfl) ?_ ?_
  rotate_left
  ·intro wk hk
   go_simp
   try with_reducible rfl
  try simp only [Act.put,List.setIfInBounds_toArray,List.set_cons_zero,List.set_cons_succ]
  refine wpGrow_take (i:=5) (d:=some 57) (v:=?_) rfl rfl (by kernel_rfl) (by kernel_rfl) (by kernel_rfl) (fun _ _ _ h=>h) (by rfl) ?_ ?_
  rotate_left
  ·intro wk hk
   go_simp
   try with_reducible rfl
  try simp only [Act.put,List.setIfInBounds_toArray,List.set_cons_zero,List.set_cons_succ]
  refine wpGrow_take (i:=6) (d:=some 58) (v:=?_) rfl rfl (by kernel_rfl) (by kernel_rfl) (by kernel_rfl) (fun _ _ _ h=>h) (by rfl) ?_ ?_
  rotate_left
  ·intro wk hk
   go_simp
   try with_reducible rfl
  try simp only [Act.put,List.setIfInBounds_toArray,List.set_cons_zero,List.set_cons_succ]
  refine wpGrow_take (i:=7) (d:=some 59) (v:=?_) rfl rfl (by kernel_rfl) (by kernel_rfl) (by kernel_rfl) (fun _ _ _ h=>h) (by rfl) ?_ ?_
  rotate_left
  ·intro wk hk
   have j0:=hk.cell f0 (by simp)
   have j1:=hk.cell f1 (by simp)
   go_simp
   try with_reducible rfl
  try simp only [Act.put,List.setIfInBounds_toArray,List.set_cons_zero,List.set_cons_succ]
  refine wpGrow_take (i:=8) (d:=some 60) (v:=?_) rfl rfl (by kernel_rfl) (by kernel_rfl) (by kernel_rfl) (fun _ _ _ h=>h) (by rfl) ?_ ?_
  rotate_left
  ·intro wk hk
   go_simp
   try with_reducible rfl
  try simp only [Act.put,List.setIfInBounds_toArray,List.set_cons_zero,List.set_cons_succ]
  refine wpGrow_take (i:=9) (d:=some 61) (v:=?_) rfl rfl (by kernel_rfl) (by kernel_rfl) (by kernel_rfl) (fun _ _ _ h=>h) (by rfl) ?_ ?_
  rotate_left
  ·intro wk hk
   go_simp
   try with_reducible rfl
  try simp only [Act.put,List.setIfInBounds_toArray,List.set_cons_zero,List.set_cons_succ]
  refine wpGrow_take (i:=10) (d:=some 62) (v:=?_) rfl rfl (by kernel_rfl) (by kernel_rfl) (by kernel_rfl) (fun _ _ _ h=>h) (by rfl) ?_ ?_
  rotate_left
  ·intro wk hk
   go_simp
   try with_reducible rfl
  try simp only [Act.put,List.setIfInBounds_toArray,List.set_cons_zero,List.set_cons_succ]
  refine wpGrow_take (i:=11) (d:=some 63) (v:=?_) rfl rfl (by kernel_rfl) (by kernel_rfl) (by kernel_rfl) (fun _ _ _ h=>h) (by rfl) ?_ ?_
  rotate_left
  ·intro wk hk
   go_simp
   try with_reducible rfl
  try simp only [Act.put,List.setIfInBounds_toArray,List.set_cons_zero,List.set_cons_succ]
  refine wpGrow_take (i:=12) (d:=some 64) (v:=?_) rfl rfl (by kernel_rfl) (by kernel_rfl) (by kernel_rfl) (fun _ _ _ h=>h) (by rfl) ?_ ?_
  rotate_left
  ·intro wk hk
   go_simp
   try with_reducible rfl
  try simp only [Act.put,List.setIfInBounds_toArray,List.set_cons_zero,List.set_cons_succ]
  refine wpGrow_take (i:=13) (d:=some 65) (v:=?_) rfl rfl (by kernel_rfl) (by kernel_rfl) (by kernel_rfl) (fun _ _ _ h=>h) (by rfl) ?_ ?_
  rotate_left
  ·intro wk hk
   go_simp
   try with_reducible rfl
  try simp only [Act.put,List.setIfInBounds_toArray,List.set_cons_zero,List.set_cons_succ]
  refine wpGrow_take (i:=14) (d:=some 66) (v:=?_) rfl rfl (by kernel_rfl) (by kernel_rfl) (by kernel_rfl) (fun _ _ _ h=>h) (by rfl) ?_ ?_
  rotate_left
  ·intro wk hk
   have j0:=hk.cell f0 (by simp)
   have j1:=hk.cell f1 (by simp)
   go_simp
   try with_reducible rfl
  try simp only [Act.put,List.setIfInBounds_toArray,List.set_cons_zero,List.set_cons_succ]
  refine wpGrow_take (i:=15) (d:=some 67) (v:=?_) rfl rfl (by kernel_rfl) (by kernel_rfl) (by kernel_rfl) (fun _ _ _ h=>h) (by rfl) ?_ ?_
  rotate_left
  ·intro wk hk
   go_simp
   try with_reducible rfl
  try simp only [Act.put,List.setIfInBounds_toArray,List.set_cons_zero,List.set_cons_succ]
  refine wpGrow_one (i:=16) rfl (by kernel_rfl) (by rfl) (fun K hK=>?_)
  refine app23_wp _ (.const (.slice none 0 0)) (.tmp 67) rfl w.heap.size (.slice none 0 0) [] (.slice ao 0 0) ((L.drop a).take 0) rfl rfl (Own.nil _ _) (HSG.out.grown (grown_drew _ _)) ?_ ?_ ?_
  ·have:=HZ.out;first | (simp;omega) | simp
  ·exact HB.out
  intro v2 w2 o2 g2
  have S5:Hid (Own w2 w.heap.size v2 ((L.drop a).take 0)/\wz.grownBy w2 none):=by
   rw [List.nil_append] at o2
   exact ⟨o2,grown_trans (grown_drew _ _) (by exact grown_weak g2 _)⟩
  clear o2
  refine hK.out _ _ (grown_weak g2 none) ?_
  clear g2
  clear hK K
  try simp only [Act.put,List.setIfInBounds_toArray,List.set_cons_zero,List.set_cons_succ]
  refine wpGrow_take (i:=17) (d:=some 4) (v:=?_) rfl rfl (by kernel_rfl) (by kernel_rfl) (by kernel_rfl) (fun _ _ _ h=>h) (by rfl) ?_ ?_
  rotate_left
  ·intro wk hk
   go_simp
   try with_reducible rfl
  try simp only [Act.put,List.setIfInBounds_toArray,List.set_cons_zero,List.set_cons_succ]
  refine wpGrow_take (i:=18) (d:=some 5) (v:=?_) rfl rfl (by kernel_rfl) (by kernel_rfl) (by kernel_rfl) (fun _ _ _ h=>h) (by rfl) ?_ ?_
  rotate_left
  ·intro wk hk
   go_simp
   try with_reducible rfl
  try simp only [Act.put,List.setIfInBounds_toArray,List.set_cons_zero,List.set_cons_succ]
  refine wpGrow_done (by kernel_rfl) ?_
  refine NoPanic.normal ?_
  go_wp2_with fail
  go_ret2
  exact ⟨_,rfl,S5.out.1,RfB.kept S3.out.1 S5.out.2 (by simp),grown_trans S3.out.2.1 (grown_weak S5.out.2 _)⟩
 ·have HSG:Hid (Seg wz (.slice (Option.map (fun x=>x.add a) ao) (((a:Int)+(n:Int)).toNat-a) (cap-a)) ((L.drop a).take n)):=by
   have en:((a:Int)+(n:Int)).toNat-a=n:=by omega
   rw [en]
   exact seg_mid2 a n (by omega) S3.out.2.2
  refine wp_region_noPanic ?_
  refine wp_region_grow (by kernel_rfl) ?_
  refine wpGrow_take (i:=0) (d:=some 52) (v:=?_) rfl rfl (by kernel_rfl) (by kernel_rfl) (by kernel_rfl) (fun _ _ _ h=>h) (by rfl) ?_ ?_
  rotate_left
  ·intro wk hk
   go_simp
   try with_reducible rfl
  try simp only [Act.put,List.setIfInBounds_toArray,List.set_cons_zero,List.set_cons_succ]
  refine wpGrow_take (i:=1) (d:=some 53) (v:=?_) rfl rfl (by kernel_rfl) (by kernel_rfl) (by kernel_rfl) (fun _ _ _ h=>h) (by rfl) ?_ ?_
  rotate_left
  ·intro wk hk
   go_simp
   try with_reducible rfl
  try simp only [Act.put,List.setIfInBounds_toArray,List.set_cons_zero,List.set_cons_succ]
  refine wpGrow_take (i:=2) (d:=some 54) (v:=?_) rfl rfl (by kernel_rfl) (by kernel_rfl) (by kernel_rfl) (fun _ _ _ h=>h) (by rfl) ?_ ?_
  rotate_left
  ·intro wk hk
   go_simp
   try with_reducible rfl
  try simp only [Act.put,List.setIfInBounds_toArray,List.set_cons_zero,List.set_cons_succ]
  refine wpGrow_take (i:=3) (d:=some 55) (v:=?_) rfl rfl (by kernel_rfl) (by kernel_rfl) (by kernel_rfl) (fun _ _ _ h=>h) (by rfl) ?_ ?_
  rotate_left
  ·intro wk hk
   have j0:=hk.cell f0 (by simp)
   have j1:=hk.cell f1 (by simp)
   go_simp
   try with_reducible rfl
  try simp only [Act.put,List.setIfInBounds_toArray,List.set_cons_zero,List.set_cons_succ]
  refine wpGrow_take (i:=4) (d:=some 56) (v:=?_) rfl rfl (by kernel_rfl) (by kernel_rfl) (by kernel_rfl) (fun _ _ _ h=>h) (by rfl) ?_ ?_
  rotate_left
  ·intro wk hk
   go_simp
   try with_reducible rfl
  try simp only [Act.put,List.setIfInBounds_toArray,List.set_cons_zero,List.set_cons_succ]
  refine wpGrow_take (i:=5) (d:=some 57) (v:=?_) rfl rfl (by kernel_rfl) (by kernel_rfl) (by kernel_rfl) (fun _ _ _ h=>h) (by rfl) ?_ ?_
  rotate_left
  ·intro wk hk
   go_simp
   try with_reducible rfl
  try simp only [Act.put,List.setIfInBounds_toArray,List.set_cons_zero,List.set_cons_succ]
  refine wpGrow_take (i:=6) (d:=some 58) (v:=?_) rfl rfl (by kernel_rfl) (by kernel_rfl) (by kernel_rfl) (fun _ _ _ h=>h) (by rfl) ?_ ?_
  rotate_left
  ·intro wk hk
   go_simp
   try with_reducible rfl
  try simp only [Act.put,List.setIfInBounds_toArray,List.set_cons_zero,List.set_cons_succ]
  refine wpGrow_take (i:=7) (d:=some 59) (v:=?_) rfl rfl (by kernel_rfl) (by kernel_rfl) (by kernel_rfl) (fun _ _ _ h=>h) (by rfl) ?_ ?_
  rotate_left
  ·intro wk hk
   have j0:=hk.cell f0 (by simp)
   have j1:=hk.cell f1 (by simp)
   go_simp
   try with_reducible rfl
  try simp only [Act.put,List.setIfInBounds_toArray,List.set_cons_zero,List.set_cons_succ]
  refine wpGrow_take (i:=8) (d:=some 60) (v:=?_) rfl rfl (by kernel_rfl) (by kernel_rfl) (by kernel_rfl) (fun _ _ _ h=>h) (by rfl) ?_ ?_
  rotate_left
  ·intro wk hk
   go_simp
   try with_reducible rfl
  try simp only [Act.put,List.setIfInBounds_toArray,List.set_cons_zero,List.set_cons_succ]
  refine wpGrow_take (i:=9) (d:=some 61) (v:=?_) rfl rfl (by kernel_rfl) (by kernel_rfl) (by kernel_rfl) (fun _ _ _ h=>h) (by rfl) ?_ ?_
  rotate_left
  ·intro wk hk
   go_simp
   try with_reducible rfl
  try simp only [Act.put,List.setIfInBounds_toArray,List.set_cons_zero,List.set_cons_succ]
  refine wpGrow_take (i:=10) (d:=some 62) (v:=?_) rfl rfl (by kernel_rfl) (by kernel_rfl) (by kernel_rfl) (fun _ _ _ h=>h) (by rfl) ?_ ?_
  rotate_left
  ·intro wk hk
   go_simp
   try with_reducible rfl
  try simp only [Act.put,List.setIfInBounds_toArray,List.set_cons_zero,List.set_cons_succ]
  refine wpGrow_take (i:=11) (d:=some 63) (v:=?_) rfl rfl (by kernel_rfl) (by kernel_rfl) (by kernel_rfl) (fun _ _ _ h=>h) (by rfl) ?_ ?_
  rotate_left
  ·intro wk hk
   go_simp
   try with_reducible rfl
  try simp only [Act.put,List.setIfInBounds_toArray,List.set_cons_zero,List.set_cons_succ]
  refine wpGrow_take (i:=12) (d:=some 64) (v:=?_) rfl rfl (by kernel_rfl) (by kernel_rfl) (by kernel_rfl) (fun _ _ _ h=>h) (by rfl) ?_ ?_
  rotate_left
  ·intro wk hk
   go_simp
   try with_reducible rfl
  try simp only [Act.put,List.setIfInBounds_toArray,List.set_cons_zero,List.set_cons_succ]
  refine wpGrow_take (i:=13) (d:=some 65) (v:=?_) rfl rfl (by kernel_rfl) (by kernel_rfl) (by kernel_rfl) (fun _ _ _ h=>h) (by rfl) ?_ ?_
  rotate_left
  ·intro wk hk
   go_simp
   try with_reducible rfl
  try simp only [Act.put,List.setIfInBounds_toArray,List.set_cons_zero,List.set_cons_succ]
  refine wpGrow_take (i:=14) (d:=some 66) (v:=?_) rfl rfl (by kernel_rfl) (by kernel_rfl) (by kernel_rfl) (fun _ _ _ h=>h) (by rfl) ?_ ?_
  rotate_left
  ·intro wk hk
   have j0:=hk.cell f0 (by simp)
   have j1:=hk.cell f1 (by simp)
   go_simp
   try with_reducible rfl
  try simp only [Act.put,List.setIfInBounds_toArray,List.set_cons_zero,List.set_cons_succ]
  refine wpGrow_take (i:=15) (d:=some 67) (v:=?_) rfl rfl (by kernel_rfl) (by kernel_rfl) (by kernel_rfl) (fun _ _ _ h=>h) (by rfl) ?_ ?_
  rotate_left
  ·intro wk hk
   go_simp
   try with_reducible rfl
  try simp only [Act.put,List.setIfInBounds_toArray,List.set_cons_zero,List.set_cons_succ]
  refine wpGrow_one (i:=16) rfl (by kernel_rfl) (by rfl) (fun K hK=>?_)
  refine app23_wp _ (.const (.slice none 0 0)) (.tmp 67) rfl w.heap.size (.slice none 0 0) [] (.slice (Option.map (fun x=>x.add a) ao) (((a:Int)+(n:Int)).toNat-a) (cap-a)) ((L.drop a).take n) rfl rfl (Own.nil _ _) (HSG.out.grown (grown_drew _ _)) ?_ ?_ ?_
  ·have:=HZ.out;first | (simp;omega) | simp
  ·exact HB.out
  intro v2 w2 o2 g2
  have S5:Hid (Own w2 w.heap.size v2 ((L.drop a).take n)/\wz.grownBy w2 none):=by
   rw [List.nil_append] at o2
   exact ⟨o2,grown_trans (grown_drew _ _) (by exact grown_weak g2 _)⟩
  clear o2
  refine hK.out _ _ (grown_weak g2 none) ?_
  clear g2
  clear hK K
  try simp only [Act.put,List.setIfInBounds_toArray,List.set_cons_zero,List.set_cons_succ]
  refine wpGrow_take (i:=17) (d:=some 4) (v:=?_) rfl rfl (by kernel_rfl) (by kernel_rfl) (by kernel_rfl) (fun _ _ _ h=>h) (by rfl) ?_ ?_
  rotate_left
  ·intro wk hk
   go_simp
   try with_reducible rfl
  try simp only [Act.put,List.setIfInBounds_toArray,List.set_cons_zero,List.set_cons_succ]
  refine wpGrow_take (i:=18) (d:=some 5) (v:=?_) rfl rfl (by kernel_rfl) (by kernel_rfl) (by kernel_rfl) (fun _ _ _ h=>h) (by rfl) ?_ ?_
  rotate_left
  ·intro wk hk
   go_simp
   try with_reducible rfl
  try simp only [Act.put,List.setIfInBounds_toArray,List.set_cons_zero,List.set_cons_succ]
  refine wpGrow_done (by kernel_rfl) ?_
  refine NoPanic.normal ?_
  go_wp2_with fail
  go_ret2
  exact ⟨_,rfl,S5.out.1,RfB.kept S3.out.1 S5.out.2 (by simp),grown_trans S3.out.2.1 (grown_weak S5.out.2 _)⟩
end
theorem Own.shape {w:World}{B:Nat}{v:Value}{L:List UInt8}(h:Own w B v L):(v=.slice none 0 0/\L=[])\/∃g cap,v=.slice (some ⟨g,0,none⟩) L.length cap/\B<=g/\g<w.heap.size:=by
 rcases h.2 with ⟨rfl,hn⟩ | ⟨g,cap,cur,rfl,hb,hg,_⟩
 ·exact .inl ⟨rfl,List.eq_nil_of_length_eq_zero hn⟩
 ·exact .inr ⟨g,cap,rfl,hb,(Array.getElem?_eq_some_iff.1 hg).1⟩
end Go.Proofs.YtanoabliahcbeaaGreat.Wire
