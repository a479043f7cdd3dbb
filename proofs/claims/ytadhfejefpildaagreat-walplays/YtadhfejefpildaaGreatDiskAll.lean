import Derived.Test.YtadhfejefpildaaGreatProg
import Derived.KernelRfl
import Derived.WalkKit
import Derived.WalkSpells
import Derived.WalkLawsBesides
import Derived.Laws.AppendOwnNone
import Derived.BigFrame
import Derived.Deep.RegionHeld3
import Derived.Deep.DrawnRows
import Derived.Deep.QuietTactic
import Derived.BigQuiet
import Derived.Deep.AppendLies
import Derived.Deep.DeepAppendRoom
import Derived.Below
set_option maxHeartbeats 1000000
set_option maxRecDepth 100000
namespace Go.Proofs.YtadhfejefpildaaGreat.Disk
open Go.RowKit
theorem gA_ {w:World}{o:Obj}:w.grownBy (w.alloc o) none:=World.grownBy_alloc _ _ none
def BV (L:List UInt8):List Value:=L.map fun u=>Value.int .u8 (u.toNat:Int)
theorem eD (L:List UInt8):(BV L).length=L.length:=by simp [BV]
theorem dr (L M:List UInt8):BV (L ++ M)=BV L ++ BV M:=by simp [BV]
theorem tL (L:List UInt8)(n:Nat):BV (L.take n)=(BV L).take n:=by simp [BV,List.map_take]
theorem eF (L:List UInt8):∀u ∈ BV L,u.oneCell'=true:=by
 intro u hu;simp [BV] at hu;obtain ⟨x,_,rfl⟩:=hu;rfl
def Seg (w:World)(v:Value)(L:List UInt8):Prop :=
 ∃ao cap,v=.slice ao L.length cap/\L.length<=cap/\cap<=maxLen/\(ao=none->cap=0)/\∀j (hj:j<L.length),∃b off,ao=some ⟨b,off,none⟩/\w.cell? ⟨b,off+j,none⟩=some (.int .u8 (L[j].toNat:Int))
def Own (w:World)(B:Nat)(v:Value)(L:List UInt8):Prop:=w.ownsRow B 5 1 v L.length (BV L)
def Blk (w:World)(b t:Nat)(c:Array Value):Prop:=w.heap[b]? = some (.cells c t (0,0))
theorem aj (w:World)(r:Option Nat):w.grownBy w r:=⟨rfl,rfl,rfl,Nat.le_refl _,fun _ _ _=>rfl⟩
theorem bh {w w':World}(h:w.grownBy w' none)(r:Option Nat):w.grownBy w' r:=⟨h.os,h.tape,h.output,h.size,fun k hk _=>h.block k hk (by simp)⟩
theorem aa {a b c:World}{r:Option Nat}(h:a.grownBy b r)(k:b.grownBy c r):a.grownBy c r :=
 ⟨k.os.trans h.os,k.tape.trans h.tape,k.output.trans h.output,Nat.le_trans h.size k.size,fun i hi hr=>(k.block i (Nat.lt_of_lt_of_le hi h.size) hr).trans (h.block i hi hr)⟩
theorem ah {a b c:World}{r q:Option Nat}(h:a.grownBy b r)(k:b.grownBy c q)(hq:∀x,q=some x->a.heap.size<=x):a.grownBy c r :=
 ⟨k.os.trans h.os,k.tape.trans h.tape,k.output.trans h.output,Nat.le_trans h.size k.size,fun i hi hr=>(k.block i (Nat.lt_of_lt_of_le hi h.size) (fun e=>by have:=hq i e.symm;omega)).trans (h.block i hi hr)⟩
theorem af (w:World)(r:Option Nat):w.grownBy w.drew r:=⟨rfl,rfl,rfl,Nat.le_refl _,fun _ _ _=>rfl⟩
theorem ax (w:World)(q:Nat)(r:Option Nat):w.grownBy (w.drewN q) r:=⟨rfl,rfl,rfl,Nat.le_refl _,fun _ _ _=>rfl⟩
theorem ae (w:World)(b o:Nat)(v:Value):w.grownBy (w.setCell ⟨b,o,none⟩ v) (some b) :=
 ⟨rfl,rfl,rfl,by simp [World.setCell],fun k _ hk=>heap_setCell_other w ⟨b,o,none⟩ k v (fun e=>hk (by simp [e]))⟩
theorem em {w w':World}(h:w.grownBy w' none):Below w.heap.size w w':=⟨h.os,h.tape,h.output,h.size,fun k hk=>h.block k hk (by simp)⟩
theorem Blk.lt {w:World}{b t:Nat}{c:Array Value}(h:Blk w b t c):b<w.heap.size:=(Array.getElem?_eq_some_iff.1 h).1
theorem Blk.cell {w:World}{b t:Nat}{c:Array Value}(h:Blk w b t c)(j:Nat):w.cell? ⟨b,j,none⟩=c[j]?:=cell_of_row w b j _ _ _ h
theorem Blk.free {w:World}{b t:Nat}{c:Array Value}(h:Blk w b t c)(j:Nat):w.frozen? ⟨b,j,none⟩=false:=frozen_of_row w b j _ _ h
theorem Blk.store {w:World}{b t:Nat}{c:Array Value}(h:Blk w b t c)(i:Nat)(v:Value):Blk (w.setCell ⟨b,i,none⟩ v) b t (c.setIfInBounds i v):=heap_setCell_same w b i _ _ v h
theorem Blk.grown {w w':World}{b t:Nat}{c:Array Value}{r:Option Nat}(h:Blk w b t c)(hg:w.grownBy w' r)(hr:r≠some b):Blk w' b t c :=
 (hg.block b h.lt (fun e=>hr e.symm)).trans h
theorem Blk.same {w w':World}{b t:Nat}{c:Array Value}(h:Blk w b t c)(hs:w'.heap[b]? = w.heap[b]?):Blk w' b t c:=hs.trans h
theorem Seg.len {w:World}{v:Value}{L:List UInt8}(h:Seg w v L):L.length<=9223372036854775807:=by
 obtain ⟨ao,cap,_,h1,h2,_⟩:=h
 unfold maxLen at h2;omega
theorem Seg.shape {w:World}{v:Value}{L:List UInt8}(h:Seg w v L):∃ao cap,v=.slice ao L.length cap:=by obtain ⟨ao,cap,h,_⟩:=h;exact ⟨ao,cap,h⟩
theorem cG (w:World):Seg w (.slice none 0 0) []:=⟨none,0,rfl,Nat.le_refl _,Nat.zero_le _,fun _=>rfl,fun j hj=>absurd hj (by simp)⟩
theorem Seg.of_cells {w w':World}{v:Value}{L:List UInt8}(h:Seg w v L)(hc:∀b j (x:Int),w.cell? ⟨b,j,none⟩=some (.int .u8 x)->w'.cell? ⟨b,j,none⟩=some (.int .u8 x)):Seg w' v L:=by
 obtain ⟨ao,cap,hv,h1,h2,h3,h4⟩:=h
 refine ⟨ao,cap,hv,h1,h2,h3,fun j hj=>?_⟩
 obtain ⟨b,off,e,hcell⟩:=h4 j hj
 exact ⟨b,off,e,hc _ _ _ hcell⟩
theorem Seg.grown {w w':World}{v:Value}{L:List UInt8}(h:Seg w v L)(hg:w.grownBy w' none):Seg w' v L :=
 h.of_cells fun _ _ _ hc=>hg.cell hc (by simp)
theorem Own.seg {w:World}{B:Nat}{v:Value}{L:List UInt8}(h:Own w B v L):Seg w v L:=by
 rcases h.2 with ⟨rfl,hn⟩ | ⟨g,cap,cur,rfl,hb,hg,hnc,hcm,hcs,ht⟩
 ·have:L=[]:=List.eq_nil_of_length_eq_zero hn
  subst this
  exact cG w
 ·refine ⟨_,cap,rfl,hnc,hcm,by simp,fun j hj=>⟨g,0,rfl,?_⟩⟩
  have:=h.cellAt j (by omega)
  rw [Nat.zero_add,this]
  simp [BV,hj]
theorem Own.nil (w:World)(B:Nat):Own w B (.slice none 0 0) []:=World.ownsRow_nil w B 5 1
theorem Own.mono {w:World}{B B':Nat}{v:Value}{L:List UInt8}(h:Own w B v L)(hB:B'<=B):Own w B' v L:=by
 refine ⟨h.1,?_⟩
 rcases h.2 with h2 | ⟨g,cap,cur,h1,hb,h3⟩
 ·exact .inl h2
 ·exact .inr ⟨g,cap,cur,h1,by omega,h3⟩
theorem Own.grown {w w':World}{B:Nat}{v:Value}{L:List UInt8}(h:Own w B v L)(hg:w.grownBy w' none):Own w' B v L:=h.kept hg (by cases v.ownBlock <;> simp)
theorem Own.same {w w':World}{B:Nat}{v:Value}{L:List UInt8}(h:Own w B v L)(hs:∀k,v.ownBlock=some k->w'.heap[k]? = w.heap[k]?):Own w' B v L:=by
 refine ⟨h.1,?_⟩
 rcases h.2 with h2 | ⟨g,cap,cur,rfl,hb,hg,h3⟩
 ·exact .inl h2
 ·exact .inr ⟨g,cap,cur,rfl,hb,(hs g rfl).trans hg,h3⟩
theorem Own.alloc {w:World}{B:Nat}{v:Value}{L:List UInt8}(h:Own w B v L)(o:Obj):Own (w.alloc o) B v L:=World.ownsRow.alloc h o
theorem Own.lt {w:World}{B:Nat}{v:Value}{L:List UInt8}(h:Own w B v L):∀k,v.ownBlock=some k->B<=k/\k<w.heap.size:=fun k hk=>World.ownsRow.lt h k hk
theorem pS (w:World):Own (w.alloc (.cells #[] 5)) w.heap.size (.slice (some ⟨w.heap.size,0,none⟩) 0 0) []:=World.ownsRow_made (base:=w.heap.size) (e:=5) (size:=1) w #[] 0 (Nat.le_refl _) (Nat.zero_le _) rfl
theorem Own.shape {w:World}{B:Nat}{v:Value}{L:List UInt8}(h:Own w B v L):(v=.slice none 0 0/\L=[])\/∃g cap,v=.slice (some ⟨g,0,none⟩) L.length cap/\B<=g/\g<w.heap.size:=by
 rcases h.2 with ⟨rfl,hn⟩ | ⟨g,cap,cur,rfl,hb,hg,_⟩
 ·exact .inl ⟨rfl,List.eq_nil_of_length_eq_zero hn⟩
 ·exact .inr ⟨g,cap,rfl,hb,(Array.getElem?_eq_some_iff.1 hg).1⟩
theorem Own.take {w:World}{B:Nat}{ao:Option Addr}{cap:Nat}{L:List UInt8}(h:Own w B (.slice ao L.length cap) L)(n:Nat)(hn:n<=L.length):Own w B (.slice ao n cap) (L.take n):=by
 refine ⟨by simp [BV],?_⟩
 have hl:(L.take n).length=n:=by simp [hn]
 rcases h.2 with ⟨he,h0⟩ | ⟨g,c,cur,he,hb,hg,h1,h2,h3,h4⟩
 ·simp at he
  obtain ⟨rfl,h00,rfl⟩:=he
  have e0:n=0:=by omega
  subst e0
  exact .inl ⟨rfl,by simp⟩
 ·simp at he
  obtain ⟨rfl,rfl⟩:=he
  refine .inr ⟨g,cap,cur,by rw [hl],hb,hg,by rw [hl];omega,h2,h3,?_⟩
  rw [hl,tL,<-h4,List.take_take]
  congr 1
  omega
theorem Own.other {w:World}{B:Nat}{v:Value}{L:List UInt8}{b t:Nat}{c:Array Value}(h:Own w B v L)(hb:Blk w b t c)(ht:t≠5):v.ownBlock≠some b:=by
 rcases h.2 with ⟨rfl,_⟩ | ⟨g,cap,cur,rfl,_,hg,_⟩
 ·simp [Value.ownBlock]
 ·intro e
  simp [Value.ownBlock] at e
  subst e
  unfold Blk at hb
  rw [hg] at hb
  simp at hb
  exact ht hb.2.symm
theorem bB {w:World}{ao:Option Addr}{cap:Nat}{L:List UInt8}(m:Nat)(hm:m<=L.length)(h:Seg w (.slice ao L.length cap) L):Seg w (.slice ao m cap) (L.take m):=by
 obtain ⟨ao',cap',hv,h1,h2,h3,h4⟩:=h
 simp at hv;obtain ⟨rfl,rfl⟩:=hv
 refine ⟨ao,cap,by simp [hm],by simp;omega,h2,h3,fun j hj=>?_⟩
 simp at hj
 obtain ⟨b,off,e,hc⟩:=h4 j (by omega)
 exact ⟨b,off,e,by simpa using hc⟩
theorem bC {w:World}{ao:Option Addr}{cap:Nat}{L:List UInt8}(m:Nat)(hm:m<=L.length)(h:Seg w (.slice ao L.length cap) L):Seg w (.slice (Option.map (fun x=>x.add m) ao) (L.length-m) (cap-m)) (L.drop m):=by
 obtain ⟨ao',cap',hv,h1,h2,h3,h4⟩:=h
 simp at hv;obtain ⟨rfl,rfl⟩:=hv
 refine ⟨Option.map (fun x=>x.add m) ao,cap-m,by simp,by simp;omega,by omega,fun h=>by simp at h;have:=h3 h;omega,fun j hj=>?_⟩
 simp at hj
 obtain ⟨b,off,e,hc⟩:=h4 (m+j) (by omega)
 refine ⟨b,off+m,?_,by rw [Nat.add_assoc];simpa using hc⟩
 rw [e];simp only [Option.map_some,Addr.add]
 by_cases hz:m=0
 ·subst hz;simp
 ·simp [hz]
theorem bk {w:World}{ao:Option Addr}{cap:Nat}{L:List UInt8}(m:Nat)(hm:m<=L.length)(hc:cap=m)(h:Seg w (.slice ao L.length cap) L):Seg w (.slice ao (L.length-m) 0) (L.drop m):=by
 obtain ⟨ao',cap',hv,h1,h2,h3,h4⟩:=h
 simp at hv;obtain ⟨rfl,rfl⟩:=hv
 have:L.length=m:=by omega
 refine ⟨ao,0,by simp,by simp;omega,by omega,fun _=>rfl,fun j hj=>?_⟩
 simp at hj;omega
structure Fr (w w':World)(F:Nat->Prop):Prop where
 os:w'.os=w.os
 tape:w'.tape=w.tape
 output:w'.output=w.output
 size:w.heap.size<=w'.heap.size
 block:∀k,k<w.heap.size->¬F k->w'.heap[k]? = w.heap[k]?
structure Aft (w:World)(F:Nat->Prop)(w':World)(F':Nat->Prop):Prop where
 fr:Fr w w' F
 sub:∀k,F' k->F k\/w.heap.size<=k
theorem Fr.of {w w':World}{r:Option Nat}{F:Nat->Prop}(h:w.grownBy w' r)(hr:∀k,r=some k->F k):Fr w w' F :=
 ⟨h.os,h.tape,h.output,h.size,fun k hk hn=>h.block k hk (fun e=>hn (hr k e.symm))⟩
theorem Fr.grown {w w':World}{F:Nat->Prop}(h:Fr w w' F)(hF:∀k,F k->w.heap.size<=k):w.grownBy w' none :=
 ⟨h.os,h.tape,h.output,h.size,fun k hk _=>h.block k hk (fun e=>by have:=hF k e;omega)⟩
theorem Fr.trans {a b c:World}{F G:Nat->Prop}(h:Fr a b F)(k:Fr b c G)(hG:∀i,G i->F i\/a.heap.size<=i):Fr a c F :=
 ⟨k.os.trans h.os,k.tape.trans h.tape,k.output.trans h.output,Nat.le_trans h.size k.size,fun i hi hn=>(k.block i (Nat.lt_of_lt_of_le hi h.size) (fun e=>by rcases hG i e with h1 | h1;exact hn h1;omega)).trans (h.block i hi hn)⟩
theorem Fr.mono {w w':World}{F G:Nat->Prop}(h:Fr w w' F)(hs:∀k,F k->G k):Fr w w' G:=⟨h.os,h.tape,h.output,h.size,fun k hk hn=>h.block k hk (fun e=>hn (hs k e))⟩
theorem Fr.after {a b c:World}{F:Nat->Prop}(h:a.grownBy b none)(k:Fr b c F)(_hF:∀i,F i->i<a.heap.size\/a.heap.size<=i):Fr a c F :=
 ⟨k.os.trans h.os,k.tape.trans h.tape,k.output.trans h.output,Nat.le_trans h.size k.size,fun i hi hn=>(k.block i (Nat.lt_of_lt_of_le hi h.size) hn).trans (h.block i hi (by simp))⟩
theorem Fr.same {w w':World}{F G:Nat->Prop}(h:Fr w w' F)(hl:∀k,G k->k<w.heap.size)(hd:∀k,G k->¬F k):∀k,G k->w'.heap[k]? = w.heap[k]?:=fun k hk=>h.block k (hl k hk) (hd k hk)
theorem cJ {w w':World}{G:Nat->Prop}(h:w.grownBy w' none)(hl:∀k,G k->k<w.heap.size):∀k,G k->w'.heap[k]? = w.heap[k]?:=fun k hk=>h.block k (hl k hk) (by simp)
theorem Aft.disj {w w':World}{F F' G:Nat->Prop}(h:Aft w F w' F')(hl:∀k,G k->k<w.heap.size)(hd:∀k,F k->¬G k):∀k,F' k->¬G k:=fun k hk hg=>by
 rcases h.sub k hk with h1 | h1
 ·exact hd k h1 hg
 ·have:=hl k hg;omega
theorem Aft.trans {a b c:World}{F G H:Nat->Prop}(h:Aft a F b G)(k:Aft b G c H):Aft a F c H :=
 ⟨h.fr.trans k.fr h.sub,fun i hi=>by
  rcases k.sub i hi with h1 | h1
  ·exact h.sub i h1
  ·exact .inr (Nat.le_trans h.fr.size h1)⟩
theorem Tryz.info5:(Tryz.prog.info? 5).map (fun i=>(i.zero,i.size,i.bytes))=some (some (.int .u8 0),1,1):=by kernel_rfl
theorem dE {w:World}{ad:Addr}{n cap:Nat}{L:List UInt8}(h:Seg w (.slice (some ad) n cap) L):n=L.length/\∀j u,(BV L)[j]? = some u->w.cell? (ad.add j)=some u:=by
 obtain ⟨ao,cap',hv,h1,h2,h3,h4⟩:=h
 simp at hv;obtain ⟨rfl,rfl,rfl⟩:=hv
 refine ⟨rfl,fun j u hj=>?_⟩
 have hjl:j<L.length:=by
  have:=(List.getElem?_eq_some_iff.1 hj).1
  simpa [BV] using this
 obtain ⟨b,off,e,hc⟩:=h4 j hjl
 simp at e;subst e
 have e2:(⟨b,off,none⟩:Addr).add j=⟨b,off+j,none⟩:=by
  unfold Addr.add;by_cases hz:j=0
  ·subst hz;simp
  ·simp [hz]
 rw [e2,hc]
 simp [BV,hjl] at hj
 rw [hj]
theorem fJ {o:Oper}{a:Act}{K:Act->World->Prop}{Q:Exit->Act->World->Prop}(w:World)(s x:Operand)
  (ho:o.op=.call { callee:=.builtin .append,args:=#[s,x],argTypes:=#[23,23] })
  (B:Nat) (v:Value) (L:List UInt8) (u:Value) (M:List UInt8) (hs:a.eval s=v) (hx:a.eval x=u) (hown:Own w B v L) (hseg:Seg w u M) (hb:L.length+M.length<=140737488355328) (hB:B<=w.heap.size)
  (h:∀v' w',Own w' B v' (L ++ M)->w.grownBy w' v.ownBlock->(∀k,v'.ownBlock=some k->v.ownBlock=some k\/w.heap.size<=k)->K (a.put o.dst v') w'):o.wp Tryz.prog a w K Q:=by
 obtain ⟨i0,hi,hz0,hz1,hz2⟩:=info_parts Tryz.info5
 have hsg:=hseg
 obtain ⟨ao,cap,rfl,h1,h2,h3,h4⟩:=hsg
 cases ao with
 | none =>
  have hM0:M=[]:=List.eq_nil_of_length_eq_zero (by have:=h3 rfl;omega)
  have hc0:cap=0:=h3 rfl
  subst hM0;subst hc0
  have hrun:=run_append_owned_none (P:=Tryz.prog) (w:=w) B 23 o.type 5 i0 1 Tryz.underlying23 hi v _ _ hown
  have hx':a.eval x=.slice none 0 0:=hx
  unfold Oper.wp
  simp only [execOp,ho,resolve,invoke,builtin,Sem.run_bind,Sem.run_pure,Result.andThen_ok,List.map_toArray,List.map_cons,List.map_nil,hs,hx',hrun]
  exact h v w (by simpa using hown) (aj _ _) (fun k hk=>.inl hk)
 | some ad =>
  obtain ⟨_,hnews⟩:=dE hseg
  by_cases hm:0<M.length
  ·refine wp_append_lies w s x 23 ho B 5 i0 (.int .u8 0) 1 1 Tryz.underlying23 hi hz0 hz1 hz2 rfl (by decide) v L.length (BV L) hs hown ad M.length cap (BV M) hx (by simp [BV]) hnews (eF M) hm (by unfold maxLen;omega) (by omega) hB w.heap.size rfl ?_
   intro g cap' w' h1 h2 h3 _
   refine h _ w' (by unfold Own;rw [dr,List.length_append];exact h1) h2 fun k hk=>?_
   simp [Value.ownBlock] at hk
   subst hk
   rcases h3 with h3 | h3
   ·exact .inl h3
   ·exact .inr (by omega)
  ·have hM0:M=[]:=List.eq_nil_of_length_eq_zero (by omega)
   subst hM0
   rcases hown.shape with ⟨rfl,rfl⟩ | ⟨g,c,rfl,_,_⟩
   ·refine wp_append_own w s x 23 ho w.heap.size 5 i0 (.int .u8 0) 1 1 Tryz.underlying23 hi hz0 hz1 hz2 rfl (by decide) _ 0 [] hs (World.ownsRow_nil _ _ _ _) ad 0 cap [] hx rfl (by simp) (by simp) (by unfold maxLen;omega) (by omega) (Nat.le_refl _) ?_
    intro v' w' h1 h2 _
    exact h v' w' ((show Own w' w.heap.size v' [] from h1).mono hB) h2 fun k hk=>.inr (World.ownsRow.lt h1 k hk).1
   ·refine wp_append_own_spare w s x 23 ho B 5 i0 1 Tryz.underlying23 hi hz1 g L.length c (BV L) hs hown ad 0 cap [] hx rfl (by simp) (by simp) (by have:=hown.2;simp at this;omega) ?_
    intro w' h1 h2
    refine h _ w' ?_ h2 fun k hk=>.inl hk
    simpa [Own] using h1
section
variable {P:Program} {ops:Array Oper} {Q:Exit->Act->World->Prop} {md:Region.Mode} {H:World->Prop} {z:Nat}
def bN (P:Program)(z:Nat)(H:World->Prop)(md:Region.Mode)(ops:Array Oper)(Q:Exit->Act->World->Prop):Nat->Array Bool->Act->World->Prop
 | 0,listed,a,w=>Region.ready md ops listed=[]/\Q .normal a w
 | n+1,listed,a,w=>(Region.ready md ops listed=[]->Q .normal a w) ∧
   ∀i ∈ Region.ready md ops listed,wpOp P ops Q i (fun a' w'=>(i≠z->H w')/\bN P z H md ops Q n (listed.setIfInBounds i true) a' w') a w
theorem gq:∀(n:Nat) (listed:Array Bool) (a:Act) (w:World),bN P z H md ops Q n listed a w->wpAny P md ops Q n listed a w
 | 0,_,_,_,h=>h
 | n+1,_,_,_,h=>⟨h.1,fun i hi=>wpOp_mono (fun a' w' h'=>gq n _ a' w' h'.2) (h.2 i hi)⟩
def kT (md:Region.Mode)(ops:Array Oper):Nat->Nat->Nat->Bool
 | 0,_,_=>false
 | n+1,z,i=>match ops[z]? with
  | some o=>o.after.any fun e=>Region.binds md e && (e.on==i || kT md ops n e.on i)
  | none=>false
def dJ (md:Region.Mode)(ops:Array Oper)(z i:Nat):Bool:=match ops[z]? with
 | some _=>kT md ops ops.size z i
 | none=>true
def dF (md:Region.Mode)(ops:Array Oper)(listed:Array Bool):Prop:=∀(j:Nat) (o:Oper),ops[j]? = some o->listed.getD j false=true->∀e ∈ o.after,Region.binds md e=true->listed.getD e.on false=true
def gW (md:Region.Mode)(ops:Array Oper)(listed:Array Bool):Bool:=(List.range ops.size).all fun j=>!listed.getD j false || ((ops[j]?).map (·.after.all fun e=>!Region.binds md e || listed.getD e.on false)).getD true
theorem fg {listed:Array Bool}(h:gW md ops listed=true):dF md ops listed:=by
 intro j o hj hl e he hb
 have hjs:j<ops.size:=(Array.getElem?_eq_some_iff.1 hj).1
 have h1:=List.all_eq_true.1 h j (List.mem_range.2 hjs)
 rw [hl,hj] at h1
 simp only [Bool.not_true,Bool.false_or,Option.map_some,Option.getD_some] at h1
 have h2:=Array.all_eq_true'.1 h1 e he
 rw [hb] at h2
 simpa using h2
theorem jr {listed:Array Bool}{i:Nat}(h:i ∈ Region.ready md ops listed):listed.getD i false=false:=by
 have h0:=(mem_ready.1 h).1
 rcases Nat.lt_or_ge i listed.size with h' | h'
 ·simp [h'] at h0 ⊢;exact h0
 ·simp [Array.getElem?_eq_none h']
theorem dF.set {listed:Array Bool}{j:Nat}(h:dF md ops listed)(hj:j ∈ Region.ready md ops listed):dF md ops (listed.setIfInBounds j true):=by
 intro k o hk hl e he hb
 have q:listed.getD e.on false=true->(listed.setIfInBounds j true).getD e.on false=true:=fun hx=>by
  by_cases hje:j=e.on
  ·subst hje
   rw [jr hj] at hx;cases hx
  ·rw [getD_set_ne false hje];exact hx
 by_cases hkj:j=k
 ·subst hkj
  obtain ⟨_,oj,hoj,hall⟩:=mem_ready.1 hj
  rw [hoj] at hk
  cases hk
  exact q (hall e he hb)
 ·rw [getD_set_ne false hkj] at hl
  exact q (h k o hk hl e he hb)
theorem gt {listed:Array Bool}(hs:dF md ops listed)(i:Nat):∀(n z:Nat),kT md ops n z i=true->(∀o,ops[z]? = some o->∀e ∈ o.after,Region.binds md e=true->listed.getD e.on false=true)->listed.getD i false=true
 | 0,_,h,_=>by cases h
 | n+1,z,h,hz=>by
  unfold kT at h
  cases ho:ops[z]? with
  | none=>rw [ho] at h;cases h
  | some o =>
   rw [ho] at h
   obtain ⟨e,he,h1⟩:=Array.any_eq_true'.1 h
   simp only [Bool.and_eq_true,Bool.or_eq_true,beq_iff_eq] at h1
   have hl:=hz o ho e he h1.1
   rcases h1.2 with h2 | h2
   ·rw [<-h2];exact hl
   ·exact gt hs i n e.on h2 (fun o' ho' e' he' hb'=>hs e.on o' ho' hl e' he' hb')
theorem js {i j:Nat}{listed:Array Bool}(hs:dF md ops listed)(hw:dJ md ops z i=true)(hi:i ∈ Region.ready md ops listed)(hj:j ∈ Region.ready md ops listed):j≠z:=by
 rintro rfl
 obtain ⟨_,oj,hoj,hall⟩:=mem_ready.1 hj
 unfold dJ at hw
 rw [hoj] at hw
 have h1:=gt hs i _ j hw (fun o ho e he hb=>by rw [hoj] at ho;cases ho;exact hall e he hb)
 rw [jr hi] at h1
 cases h1
theorem fh {i:Nat}{oi:Oper}{v:Value}(hi:ops[i]? = some oi)(hsel:∀(j:Nat) (o:Oper) cs b,ops[j]? = some o->o.op≠.select cs b)
  (hz:dJ md ops z i=true)
  (hQ:∀c a w,Q (.panic c) (a.put oi.dst v) w->Q (.panic c) a w) :
  ∀(n:Nat) (listed:Array Bool) (a:Act) (w:World),dF md ops listed->H w →
   (∀j oj,ops[j]? = some oj->j≠i->listed.getD j true=false->(∀e ∈ oj.after,Region.binds md e=true->e.on≠i)->oi.apart ops oj=true) →
   i ∈ Region.ready md ops listed->YieldsIf P ops H oi v a →
   bN P z H md ops Q n (listed.setIfInBounds i true) (a.put oi.dst v) w->bN P z H md ops Q (n+1) listed a w:=by
 intro n
 induction n with
 | zero =>
  intro listed a w _ hH _ hr hy W
  refine ⟨fun h=>(by rw [h] at hr;cases hr),fun j hj=>?_⟩
  by_cases hji:j=i
  ·subst hji;exact hy.wpOp hi hH ⟨fun _=>hH,W⟩
  ·have h0:=ready_mono hj hji
   rw [W.1] at h0
   cases h0
 | succ n ih =>
  intro listed a w hsd hH hfree hr hy W
  refine ⟨fun h=>(by rw [h] at hr;cases hr),fun j hj=>?_⟩
  by_cases hji:j=i
  ·subst hji;exact hy.wpOp hi hH ⟨fun _=>hH,W⟩
  ·have h1:=W.2 j (ready_mono hj hji)
   obtain ⟨hjun,oj,hoj,hall⟩:=mem_ready.1 hj
   have hnot:∀e ∈ oj.after,Region.binds md e=true->e.on≠i:=fun e he hb heq=>by
    have h2:=hall e he hb
    have h0:=(mem_ready.1 hr).1
    rw [heq] at h2
    rcases Nat.lt_or_ge i listed.size with h' | h'
    ·simp [h'] at h0 h2;rw [h0] at h2;cases h2
    ·simp [Array.getElem?_eq_none h'] at h2
   have h2:=wpOp_putIf hoj (hfree j oj hoj hji hjun hnot) (fun cs b=>hsel i oi cs b hi) (fun cs b=>hsel j oj cs b hoj) hQ hy h1
   have hfree':∀k ok,ops[k]? = some ok->k≠i->(listed.setIfInBounds j true).getD k true=false →
     (∀e ∈ ok.after,Region.binds md e=true->e.on≠i)->oi.apart ops ok=true:=fun k ok hk hki hun hno=>by
    refine hfree k ok hk hki ?_ hno
    by_cases hjk:j=k
    ·subst hjk;exact hjun
    ·rw [getD_set_ne true hjk] at hun;exact hun
   have hjz:j≠z:=js hsd hz hr hj
   refine wpOp_mono (fun a' w' h3=>⟨h3.2.1,ih (listed.setIfInBounds j true) a' w' (hsd.set hj) (h3.2.1 hjz) hfree' (ready_mono hr (Ne.symm hji)) h3.1 ?_⟩) h2
   rw [Array.setIfInBounds_comm _ _ hji]
   exact h3.2.2
theorem bu {i:Nat}{oi:Oper}{l:List Oper}(h:ops.toList.drop i=oi :: l):ops[i]? = some oi:=by
 have h1:(ops.toList.drop i)[0]? = some oi:=by rw [h];rfl
 rw [List.getElem?_drop] at h1
 simpa using h1
theorem lV {i:Nat}{oi:Oper}{l:List Oper}{d:Option Tmp}{v:Value}{n:Nat}{listed:Array Bool}{a:Act}{w:World}(hH:H w)(hi:ops.toList.drop i=oi :: l)(hd:oi.dst=d)
  (hs:Region.noSelect ops=true) (hz:dJ md ops z i=true) (hsd:gW md ops listed=true) (hf:Region.free md ops listed i=true) (hr:(Region.ready md ops listed).contains i=true)
  (hQ:∀c a w,Q (.panic c) (a.put d v) w->Q (.panic c) a w) (hw:Region.wanted oi (yielded ops a.tmps)=true) (hy:∀x:World,H x->(execOp a.eval oi).run P x=.ok (.value v) x)
  (h:bN P z H md ops Q n (listed.setIfInBounds i true) (a.put d v) w):bN P z H md ops Q (n+1) listed a w:=by
 subst hd
 exact fh (bu hi) (Region.noSelect_spec hs) hz hQ n listed a w (fg hsd) hH (Region.free_spec (bu hi) hf) (by simpa using hr) (.inl ⟨hw,hy⟩) h
def Idx (_:List Nat):Prop:=True
theorem Idx.tl {i:Nat}{l:List Nat}(_:Idx (i :: l)):Idx l:=trivial
theorem tK {i:Nat}{l':List Nat}(_:Idx (i :: l')){oi:Oper}{l:List Oper}{d:Option Tmp}{v:Value}{n:Nat}{listed:Array Bool}{a:Act}{w:World}(hH:H w)(hi:ops.toList.drop i=oi :: l)(hd:oi.dst=d)
  (hy:∀x:World,H x->(execOp a.eval oi).run P x=.ok (.value v) x)
  (h:bN P z H md ops Q n (listed.setIfInBounds i true) (a.put d v) w)
  (hs:Region.noSelect ops=true:=by kernel_rfl) (hz:dJ md ops z i=true:=by kernel_rfl) (hsd:gW md ops listed=true:=by kernel_rfl) (hf:Region.free md ops listed i=true:=by kernel_rfl) (hr:(Region.ready md ops listed).contains i=true:=by kernel_rfl)
  (hQ:∀c a w,Q (.panic c) (a.put d v) w->Q (.panic c) a w:=by exact fun _ _ _ h=>h) (hw:Region.wanted oi (yielded ops a.tmps)=true:=by rfl):bN P z H md ops Q (n+1) listed a w:=lV hH hi hd hs hz hsd hf hr hQ hw hy h
theorem tS (i:Nat){oi:Oper}{l:List Oper}{d:Option Tmp}{v:Value}{n:Nat}{listed:Array Bool}{a:Act}{w:World}(hH:H w)(hi:ops.toList.drop i=oi :: l)(hd:oi.dst=d)
  (hy:∀x:World,H x->(execOp a.eval oi).run P x=.ok (.value v) x)
  (h:bN P z H md ops Q n (listed.setIfInBounds i true) (a.put d v) w)
  (hs:Region.noSelect ops=true:=by kernel_rfl) (hz:dJ md ops z i=true:=by kernel_rfl) (hsd:gW md ops listed=true:=by kernel_rfl) (hf:Region.free md ops listed i=true:=by kernel_rfl) (hr:(Region.ready md ops listed).contains i=true:=by kernel_rfl)
  (hQ:∀c a w,Q (.panic c) (a.put d v) w->Q (.panic c) a w:=by exact fun _ _ _ h=>h) (hw:Region.wanted oi (yielded ops a.tmps)=true:=by rfl):bN P z H md ops Q (n+1) listed a w:=tK (l':=[]) trivial hH hi hd hy h hs hz hsd hf hr hQ hw
theorem sk {i:Nat}{l':List Nat}(_:Idx (i :: l')){oi:Oper}{l:List Oper}{d:Option Tmp}{n:Nat}{listed:Array Bool}{a:Act}{w:World}(hH:H w)(hi:ops.toList.drop i=oi :: l)(hd:oi.dst=d)
  (h:bN P z H md ops Q n (listed.setIfInBounds i true) (a.put d undef) w)
  (hs:Region.noSelect ops=true:=by kernel_rfl) (hz:dJ md ops z i=true:=by kernel_rfl) (hsd:gW md ops listed=true:=by kernel_rfl) (hf:Region.free md ops listed i=true:=by kernel_rfl) (hr:(Region.ready md ops listed).contains i=true:=by kernel_rfl)
  (hQ:∀c a w,Q (.panic c) (a.put d undef) w->Q (.panic c) a w:=by exact fun _ _ _ h=>h) (hw:Region.wanted oi (yielded ops a.tmps)=false:=by rfl):bN P z H md ops Q (n+1) listed a w:=by
 subst hd
 exact fh (v:=undef) (bu hi) (Region.noSelect_spec hs) hz hQ n listed a w (fg hsd) hH (Region.free_spec (bu hi) hf) (by simpa using hr) (.inr ⟨hw,rfl⟩) h
theorem sS (i:Nat){oi:Oper}{l:List Oper}{d:Option Tmp}{n:Nat}{listed:Array Bool}{a:Act}{w:World}(hH:H w)(hi:ops.toList.drop i=oi :: l)(hd:oi.dst=d)
  (h:bN P z H md ops Q n (listed.setIfInBounds i true) (a.put d undef) w)
  (hs:Region.noSelect ops=true:=by kernel_rfl) (hz:dJ md ops z i=true:=by kernel_rfl) (hsd:gW md ops listed=true:=by kernel_rfl) (hf:Region.free md ops listed i=true:=by kernel_rfl) (hr:(Region.ready md ops listed).contains i=true:=by kernel_rfl)
  (hQ:∀c a w,Q (.panic c) (a.put d undef) w->Q (.panic c) a w:=by exact fun _ _ _ h=>h) (hw:Region.wanted oi (yielded ops a.tmps)=false:=by rfl):bN P z H md ops Q (n+1) listed a w:=sk (l':=[]) trivial hH hi hd h hs hz hsd hf hr hQ hw
theorem pN:(∀(a:Act) (d:Tmp) (v:Value),a.put (some d) v={ a with tmps:=a.tmps.setIfInBounds d v })/\(∀(a:Act) (v:Value),a.put none v=a)/\(∀(l:List Value) (i:Nat) (v:Value),l.toArray.setIfInBounds i v=(l.set i v).toArray)/\(∀(x:Value) (l:List Value) (v:Value),(x :: l).set 0 v=v :: l)/\(∀(x:Value) (l:List Value) (i:Nat) (v:Value),(x :: l).set (i+1) v=x :: l.set i v):=⟨fun _ _ _=>rfl,fun _ _=>rfl,fun _ _ _=>by simp,fun _ _ _=>rfl,fun _ _ _ _=>rfl⟩
theorem nF {i:Nat}{oi:Oper}{l:List Oper}{n:Nat}{listed:Array Bool}{a:Act}{w:World}(hi:ops.toList.drop i=oi :: l)(hr:Region.ready md ops listed=[i])(hw:Region.wanted oi (yielded ops a.tmps)=true)
  (h:∀K:Act->World->Prop,Shut (∀a' w',(i≠z->H w')->bN P z H md ops Q n (listed.setIfInBounds i true) a' w'->K a' w')->Oper.wp P oi a w K Q):bN P z H md ops Q (n+1) listed a w:=by
 refine ⟨fun h0=>(by rw [hr] at h0;cases h0),fun j hj=>?_⟩
 rw [hr] at hj
 have e:j=i:=by simpa using hj
 subst e
 refine wpOp_step (bu hi) fun K hK=>?_
 rw [if_pos hw]
 exact h K fun a' w' h1 h2=>hK a' w' ⟨h1,h2⟩
theorem wO (i:Nat){oi:Oper}{l:List Oper}{n:Nat}{listed:Array Bool}{a:Act}{w:World}(hi:ops.toList.drop i=oi :: l)(h:∀K:Act->World->Prop,Shut (∀a' w',(i≠z->H w')->bN P z H md ops Q n (listed.setIfInBounds i true) a' w'->K a' w')->Oper.wp P oi a w K Q)(hr:Region.ready md ops listed=[i]:=by kernel_rfl)(hw:Region.wanted oi (yielded ops a.tmps)=true:=by rfl):bN P z H md ops Q (n+1) listed a w:=nF hi hr hw h
theorem lW {n:Nat}{listed:Array Bool}{a:Act}{w:World}(hr:Region.ready md ops listed=[])(h:Q .normal a w):bN P z H md ops Q n listed a w:=by
 cases n with
 | zero=>exact ⟨hr,h⟩
 | succ n=>exact ⟨fun _=>h,by rw [hr];simp⟩
theorem wD {n:Nat}{listed:Array Bool}{a:Act}{w:World}(h:Q .normal a w)(hr:Region.ready md ops listed=[]:=by kernel_rfl):bN P z H md ops Q n listed a w:=lW hr h
theorem am (z:Nat)(H:World->Prop){id:Nat}{a:Act}{w:World}(hm:P.follows .mixedOrders=true)(h:bN P z H .any ops Q ops.size (Array.replicate ops.size false) a w.drew):(Code.region id ops true).wp P Q a w :=
 wp_region_any hm (gq _ _ _ _ h)
end
theorem bH {ops:Array Oper}{rest:List Oper}{o:Oper}{a:Act}{Q:Exit->Act->World->Prop}(w:World)(hw:Region.wanted o (yielded ops a.tmps)=true)(s x:Operand)
  (ho:o.op=.call { callee:=.builtin .append,args:=#[s,x],argTypes:=#[23,23] })
  (B:Nat) (v:Value) (L:List UInt8) (u:Value) (M:List UInt8) (hs:a.eval s=v) (hx:a.eval x=u) (hown:Own w B v L) (hseg:Seg w u M) (hb:L.length+M.length<=140737488355328) (hB:B<=w.heap.size)
  (h:∀v' w',Own w' B v' (L ++ M)->w.grownBy w' v.ownBlock->(∀k,v'.ownBlock=some k->v.ownBlock=some k\/w.heap.size<=k)->wpList Tryz.prog ops Q rest (a.put o.dst v') w'):wpList Tryz.prog ops Q (o :: rest) a w :=
 BigFrame.wpList_want hw fun _ hK=>fJ w s x ho B v L u M hs hx hown hseg hb hB fun v' w' h1 h2 h3=>hK _ _ (h v' w' h1 h2 h3)
theorem aJ {w:World}{v:Value}{L:List UInt8}(h:Seg w v L):(convert 23 9 v).run Tryz.prog w=.ok (.string ⟨L.toArray⟩) w:=by
 have hs:=h
 obtain ⟨ao,cap,rfl,h1,h2,h3,h4⟩:=h
 cases ao with
 | none =>
  have hL:L=[]:=List.eq_nil_of_length_eq_zero (by have:=h3 rfl;omega)
  subst hL
  rw [run_convert_bytes_nil w 23 5 Tryz.underlying23 Tryz.underlying5 _ _ 9 Tryz.underlying9]
  rfl
 | some ad =>
  refine run_convert_bytes_back w 23 9 5 ad cap L Tryz.underlying23 Tryz.underlying5 Tryz.underlying9 fun j hj=>?_
  exact (dE hs).2 j _ (by simp [BV,hj])
theorem vU:∀(w:World) (a:Option Addr) (n c n' c':Nat),(binOp .eql 23 (.slice a n c) (.slice none n' c')).run Tryz.prog w=.ok (.bool a.isNone) w:=fun w a n c n' c'=>Lib.run_eql_slice_nil w 23 5 a n c n' c' Tryz.underlying23
theorem aH {w:World}{v:Value}{L:List UInt8}(h:Seg w v L)(o:Obj):Seg (w.alloc o) v L:=h.grown (World.grownBy_alloc _ _ _)
theorem ep (v:Value)(L:List UInt8)(w:World)(hs:Seg w v L)(hL:L.length<=140737488355328) :
  Calls Tryz.prog 66 #[v] w fun e w'=>∃u,e=.returned u/\Own w' w.heap.size u L/\w.grownBy w' none:=by
 obtain ⟨ao,cap,hsv⟩:=hs.shape
 subst hsv
 have q:=vU
 cases ao with
 | none =>
  have hL0:L=[]:=by
   obtain ⟨ao',cap',hv,h1,_,h3,_⟩:=hs
   simp at hv
   have:=h3 hv.1.symm
   exact List.eq_nil_of_length_eq_zero (by omega)
  subst hL0
  clear hL hs
  go_enter Tryz.func66,Tryz.ntmps66
  go_wp2
  go_ret
  exact ⟨_,rfl,Own.nil _ _,aj _ _⟩
 | some ad =>
  have HS:Hid _:=hs
  have HL:Hid _:=hL
  clear hs hL
  go_enter Tryz.func66,Tryz.ntmps66
  go_wp2_with (at_builtin;refine bH _ rfl _ _ rfl w.heap.size _ [] _ L rfl rfl (pS w) (aH HS.out _) ?c0 ?c1 ?_)
  case c0=>have:=HL.out;simpa using this
  case c1=>simp
  intro v' w1 hown hg hl
  have F:Hid _:=And.intro hown hg
  clear hown hg hl
  go_wp2_with fail
  go_ret
  obtain ⟨hown,hg⟩:=F.out
  exact ⟨_,rfl,hown,ah (World.grownBy_alloc w _ none) hg (by intro x hx;simp [Value.ownBlock] at hx;omega)⟩
theorem jt (v:Value)(L:List UInt8)(w:World)(hs:Seg w v L)(hL:L.length<=140737488355328) :
  Calls Tryz.prog 53 #[v] w fun e w'=>∃u,e=.returned u/\Own w' w.heap.size u L/\w.grownBy w' none:=by
 have HS:Hid _:=hs
 have HL:Hid _:=hL
 clear hs hL
 go_enter Tryz.func53,Tryz.ntmps53
 go_wp2_with (at_builtin;refine bH _ rfl _ _ rfl w.heap.size _ [] _ L rfl rfl (Own.nil _ _) HS.out ?c0 ?c1 ?_)
 case c0=>have:=HL.out;simpa using this
 case c1=>omega
 intro v' w1 hown hg hl
 have F:Hid _:=And.intro hown hg
 clear hown hg hl
 go_wp2_with fail
 go_ret
 obtain ⟨hown,hg⟩:=F.out
 exact ⟨_,rfl,hown,hg⟩
def Lent (w:World)(B:Nat)(v:Value)(L:List UInt8):Prop:=∃g cap,v=.slice (some ⟨g,0,none⟩) L.length cap/\Own w B (.slice (some ⟨g,0,none⟩) (L.length+1) cap) (L ++ [165])
theorem Lent.same {w w':World}{B:Nat}{v:Value}{L:List UInt8}(h:Lent w B v L)(hs:∀k,v.ownBlock=some k->w'.heap[k]? = w.heap[k]?):Lent w' B v L:=by
 obtain ⟨g,cap,rfl,ho⟩:=h
 exact ⟨g,cap,rfl,ho.same fun k hk=>hs k hk⟩
theorem Lent.lt {w:World}{B:Nat}{v:Value}{L:List UInt8}(h:Lent w B v L):∀k,v.ownBlock=some k->B<=k/\k<w.heap.size:=by
 obtain ⟨g,cap,rfl,ho⟩:=h
 exact fun k hk=>ho.lt k hk
theorem Lent.mono {w:World}{B B':Nat}{v:Value}{L:List UInt8}(h:Lent w B v L)(hB:B'<=B):Lent w B' v L:=by
 obtain ⟨g,cap,rfl,ho⟩:=h
 exact ⟨g,cap,rfl,ho.mono hB⟩
theorem Lent.seg {w:World}{B:Nat}{v:Value}{L:List UInt8}(h:Lent w B v L):Seg w v L:=by
 obtain ⟨g,cap,rfl,ho⟩:=h
 have h1:Own w B (.slice (some ⟨g,0,none⟩) (L ++ [165]).length cap) (L ++ [165]):=by simpa using ho
 have h2:=(h1.take L.length (by simp)).seg
 simpa using h2
def Over (w wr:World)(g n:Nat):Prop:=w.grownBy wr (some g)/\∃cur,Blk wr g 5 cur/\n<=cur.size/\∀j,j<n->∃x:Int,cur[j]? = some (.int .u8 x)
theorem Over.step {w wr:World}{g n:Nat}(h:Over w wr g n)(k:Nat):Over w (wr.setCell ⟨g,k,none⟩ (.int .u8 99)) g n:=by
 obtain ⟨hg,cur,hb,hn,hx⟩:=h
 refine ⟨aa hg (ae _ _ _ _),_,hb.store k _,by simpa using hn,fun j hj=>?_⟩
 by_cases e:k=j
 ·subst e
  exact ⟨99,by rw [Array.getElem?_setIfInBounds_self_of_lt (by omega)]⟩
 ·obtain ⟨x,hx⟩:=hx j hj
  exact ⟨x,by rw [Array.getElem?_setIfInBounds_ne e];exact hx⟩
theorem Over.facts {w wr:World}{g n:Nat}(h:Over w wr g n)(k:Nat)(hk:k<n):(∃x:Int,wr.cell? ⟨g,k,none⟩=some (.int .u8 x))/\wr.frozen? ⟨g,k,none⟩=false:=by
 obtain ⟨hg,cur,hb,hn,hx⟩:=h
 obtain ⟨x,hx⟩:=hx k hk
 exact ⟨⟨x,by rw [hb.cell,hx]⟩,hb.free k⟩
theorem Own.over {w:World}{B g n cap:Nat}{L:List UInt8}(h:Own w B (.slice (some ⟨g,0,none⟩) n cap) L)(m:Nat)(hm:m<=L.length):Over w w g m:=by
 refine ⟨aj _ _,?_⟩
 rcases h.2 with ⟨he,_⟩ | ⟨g',c,cur,he,_,hg,h1,h2,h3,h4⟩
 ·simp at he
 ·simp at he
  obtain ⟨rfl,_,rfl⟩:=he
  refine ⟨cur,hg,by omega,fun j hj=>?_⟩
  have e:cur.toList[j]? = (BV L)[j]?:=by
   rw [<-h4,List.getElem?_take,if_pos (by omega)]
  rw [<-Array.getElem?_toList,e]
  exact ⟨_,by simp [BV];exact ⟨L[j],by simp [show j<L.length by omega],rfl⟩⟩
def Gone (w:World)(v:Value):Prop:=v=.pointer none\/∃b,v=.pointer (some ⟨b,0,none⟩)/\w.cell? ⟨b,0,none⟩=some (.int .i64 0)
theorem Gone.grown {w w':World}{v:Value}(h:Gone w v)(hg:w.grownBy w' none):Gone w' v:=by
 rcases h with rfl | ⟨b,rfl,hc⟩
 ·exact .inl rfl
 ·exact .inr ⟨b,rfl,hg.cell hc (by simp)⟩
theorem dL (v:Value)(w:World)(h:Gone w v):Calls Tryz.prog 63 #[v] w fun e w'=>e=.returned (.bool false)/\w'=w:=by
 rcases h with rfl | ⟨b,rfl,hc⟩
 all_goals
  go_enter Tryz.func63,Tryz.ntmps63
  go_wp2
  go_ret
  exact ⟨rfl,rfl⟩
theorem fY (b c:Nat)(w:World)(hc:w.cell? ⟨b,0,none⟩=some (.int .i64 c))(h1:1<=c):Calls Tryz.prog 63 #[.pointer (some ⟨b,0,none⟩)] w fun e w'=>e=.returned (.bool true)/\w'=w:=by
 have h0:0<c:=h1
 go_enter Tryz.func63,Tryz.ntmps63
 go_wp2
 go_ret
 exact ⟨rfl,rfl⟩
theorem iL (v:Value)(w:World)(h:Gone w v):Calls Tryz.prog 62 #[v] w fun e w'=>e=.returned (.bool false)/\w'=w:=by
 have H:Hid _:=h
 clear h
 go_enter Tryz.func62,Tryz.ntmps62
 go_wp2_with fail
 refine (dL _ _ H.out).mono ?_
 rintro e w1 ⟨rfl,he⟩;subst he
 go_wp2_with fail
 go_ret
 exact ⟨rfl,rfl⟩
theorem ju (b c n:Nat)(w:World)(hc:w.cell? ⟨b,0,none⟩=some (.int .i64 c))(h1:1<=c)(hn:w.cell? ⟨b,8,none⟩=some (.int .i64 n))(hf:w.frozen? ⟨b,8,none⟩=false)(hm:n<9223372036854775807) :
  Calls Tryz.prog 62 #[.pointer (some ⟨b,0,none⟩)] w fun e w'=>e=.returned (.bool true)/\w'=w.setCell ⟨b,8,none⟩ (.int .i64 ((n+1:Nat):Int)):=by
 go_enter Tryz.func62,Tryz.ntmps62
 go_wp2_with fail
 refine (fY _ _ _ hc h1).mono ?_
 rintro e w1 ⟨rfl,he⟩;subst he
 go_wp2_with fail
 go_ret
 exact ⟨rfl,by push_cast;rfl⟩
theorem vj (b c s:Nat)(w:World)(hc:w.cell? ⟨b,0,none⟩=some (.int .i64 c))(h1:1<=c)(hs:w.cell? ⟨b,2,none⟩=some (.int .i64 s)) :
  Calls Tryz.prog 35 #[.pointer (some ⟨b,0,none⟩)] w fun e w'=>e=.returned (.int .i64 s)/\w'=w:=by
 go_enter Tryz.func35,Tryz.ntmps35
 go_wp2_with fail
 refine (fY _ _ _ hc h1).mono ?_
 rintro e w1 ⟨rfl,he⟩;subst he
 go_wp2_with fail
 go_ret
 exact ⟨rfl,rfl⟩
theorem tM (b c s:Nat)(w:World)(hc:w.cell? ⟨b,0,none⟩=some (.int .i64 c))(h1:1<=c)(hs:w.cell? ⟨b,8,none⟩=some (.int .i64 s)) :
  Calls Tryz.prog 36 #[.pointer (some ⟨b,0,none⟩)] w fun e w'=>e=.returned (.int .i64 s)/\w'=w:=by
 go_enter Tryz.func36,Tryz.ntmps36
 go_wp2_with fail
 refine (fY _ _ _ hc h1).mono ?_
 rintro e w1 ⟨rfl,he⟩;subst he
 go_wp2_with fail
 go_ret
 exact ⟨rfl,rfl⟩
theorem nG (v:Value)(w:World)(h:Gone w v):Calls Tryz.prog 55 #[v] w fun e w'=>e=.returned (.int .i64 0)/\w'=w:=by
 have H:Hid _:=h
 clear h
 go_enter Tryz.func55,Tryz.ntmps55
 go_wp2_with fail
 refine (dL _ _ H.out).mono ?_
 rintro e w1 ⟨rfl,he⟩;subst he
 go_wp2_with fail
 go_ret
 exact ⟨rfl,rfl⟩
theorem jv (ts:Array TypeId)(t:TypeId)(n:Int)(w:World):(Builtin.max_ ts t #[.int .i64 0,.int .i64 n]).run Tryz.prog w=.ok (.int .i64 (n.toNat:Nat)) w:=by
 by_cases h:n<=0
 ·have e:(n.toNat:Int)=0:=by omega
  rw [e]
  simp [Builtin.max_,Builtin.max2]
  try omega
 ·have e:(n.toNat:Int)=n:=by omega
  rw [e]
  simp [Builtin.max_,Builtin.max2]
  try omega
theorem jw (ts:Array TypeId)(t:TypeId)(n:Int)(w:World):(Builtin.max_ ts t #[.int .i64 n,.int .i64 0]).run Tryz.prog w=.ok (.int .i64 (n.toNat:Nat)) w:=by
 by_cases h:n<=0
 ·have e:(n.toNat:Int)=0:=by omega
  rw [e]
  simp [Builtin.max_,Builtin.max2]
  try omega
 ·have e:(n.toNat:Int)=n:=by omega
  rw [e]
  simp [Builtin.max_,Builtin.max2]
  try omega
theorem gX (ts:Array TypeId)(t:TypeId)(m n:Nat)(w:World):(Builtin.min_ ts t #[.int .i64 m,.int .i64 n]).run Tryz.prog w=.ok (.int .i64 ((min m n:Nat):Int)) w:=by
 by_cases h:m<=n
 ·rw [Nat.min_eq_left h]
  simp [Builtin.min_,Builtin.min2]
  try omega
 ·rw [Nat.min_eq_right (by omega)]
  simp [Builtin.min_,Builtin.min2]
  try omega
attribute [local go_sem ↓] jv jw gX
theorem vk (b c n cap:Nat)(ao:Option Addr)(w:World)(hc:w.cell? ⟨b,0,none⟩=some (.int .i64 c))(h1:1<=c)(hs:w.cell? ⟨b,1,none⟩=some (.slice ao n cap))(h2:c<=1048576)(hn:n<=140737488355328) :
  Calls Tryz.prog 55 #[.pointer (some ⟨b,0,none⟩)] w fun e w'=>e=.returned (.int .i64 ((c-n:Nat):Int))/\w.grownBy w' none/\w'.heap=w.heap:=by
 go_enter Tryz.func55,Tryz.ntmps55
 go_wp2_with fail
 refine (fY _ _ _ hc h1).mono ?_
 rintro e w1 ⟨rfl,he⟩;subst he
 go_wp2_with fail
 go_quiet (fail)
 go_wp2_with fail
 go_ret
 exact ⟨rfl,ax _ _ _,rfl⟩
theorem nH (v:Value)(w:World)(h:Gone w v):Calls Tryz.prog 34 #[v] w fun e w'=>e=.returned (.slice none 0 0)/\w'=w:=by
 have H:Hid _:=h
 clear h
 go_enter Tryz.func34,Tryz.ntmps34
 go_wp2_with fail
 refine (dL _ _ H.out).mono ?_
 rintro e w1 ⟨rfl,he⟩;subst he
 go_wp2_with fail
 go_ret
 exact ⟨rfl,rfl⟩
structure St where
 cap:Nat
 log:List UInt8
 sure:Nat
 h0:Bool
 b0:List UInt8
 h1:Bool
 b1:List UInt8
 last:Nat
 steps:Nat
structure St.Ok (S:St):Prop where
 cap1:1<=S.cap
 cap2:S.cap<=1048576
 log:S.log.length<=140737488351232
 sure:S.sure<=S.log.length
 l0:S.b0.length<=140737488351232
 l1:S.b1.length<=140737488351232
 last:S.last<=1
 first:S.last=0->S.h0=true
 e0:S.h0=false->S.b0=[]
 e1:S.h1=false->S.b1=[]
def dC (S:St)(lv v0 v1:Value):Array Value:=#[.int .i64 S.cap,lv,.int .i64 S.sure,.bool S.h0,v0,.bool S.h1,v1,.int .i64 S.last,.int .i64 S.steps]
def In (F:Nat->Prop)(v:Value):Prop:=∀k,v.ownBlock=some k->F k
structure DKb (w:World)(F:Nat->Prop)(b:Nat)(lv v0 v1:Value)(S:St):Prop where
 blk:Blk w b 124 (dC S lv v0 v1)
 log:Own w 0 lv S.log
 p0:Own w 0 v0 S.b0
 p1:Own w 0 v1 S.b1
 a0:∀k,lv.ownBlock=some k->v0.ownBlock≠some k
 a1:∀k,lv.ownBlock=some k->v1.ownBlock≠some k
 inb:F b
 inl:In F lv
 in0:In F v0
 in1:In F v1
 lt:∀k,F k->k<w.heap.size
 ok:S.Ok
def DK (w:World)(F:Nat->Prop)(v:Value)(S:St):Prop:=∃b lv v0 v1,v=.pointer (some ⟨b,0,none⟩)/\DKb w F b lv v0 v1 S
theorem DKb.same {w w':World}{F:Nat->Prop}{b:Nat}{lv v0 v1:Value}{S:St}(h:DKb w F b lv v0 v1 S)(hz:w.heap.size<=w'.heap.size)(hs:∀k,F k->w'.heap[k]? = w.heap[k]?):DKb w' F b lv v0 v1 S :=
 ⟨h.blk.same (hs b h.inb),h.log.same fun k hk=>hs k (h.inl k hk),h.p0.same fun k hk=>hs k (h.in0 k hk),h.p1.same fun k hk=>hs k (h.in1 k hk),h.a0,h.a1,h.inb,h.inl,h.in0,h.in1,fun k hk=>Nat.lt_of_lt_of_le (h.lt k hk) hz,h.ok⟩
theorem DKb.grown {w w':World}{F:Nat->Prop}{b:Nat}{lv v0 v1:Value}{S:St}(h:DKb w F b lv v0 v1 S)(hg:w.grownBy w' none):DKb w' F b lv v0 v1 S:=h.same hg.size (cJ hg h.lt)
theorem DK.same {w w':World}{F:Nat->Prop}{v:Value}{S:St}(h:DK w F v S)(hz:w.heap.size<=w'.heap.size)(hs:∀k,F k->w'.heap[k]? = w.heap[k]?):DK w' F v S:=by
 obtain ⟨b,lv,v0,v1,rfl,h⟩:=h
 exact ⟨b,lv,v0,v1,rfl,h.same hz hs⟩
theorem DK.lt {w:World}{F:Nat->Prop}{v:Value}{S:St}(h:DK w F v S):∀k,F k->k<w.heap.size:=by
 obtain ⟨b,lv,v0,v1,rfl,h⟩:=h
 exact h.lt
theorem DK.ok {w:World}{F:Nat->Prop}{v:Value}{S:St}(h:DK w F v S):S.Ok:=by
 obtain ⟨b,lv,v0,v1,rfl,h⟩:=h
 exact h.ok
theorem DK.grown {w w':World}{F:Nat->Prop}{v:Value}{S:St}(h:DK w F v S)(hg:w.grownBy w' none):DK w' F v S:=h.same hg.size (cJ hg h.lt)
theorem DK.far {w w':World}{F G:Nat->Prop}{v:Value}{S:St}(h:DK w F v S)(hf:Fr w w' G)(hd:∀k,F k->¬G k):DK w' F v S:=h.same hf.size (hf.same h.lt hd)
theorem DKb.cells {w:World}{F:Nat->Prop}{b:Nat}{lv v0 v1:Value}{S:St}(h:DKb w F b lv v0 v1 S) :
  w.cell? ⟨b,0,none⟩=some (.int .i64 S.cap)/\w.cell? ⟨b,1,none⟩=some lv/\w.cell? ⟨b,2,none⟩=some (.int .i64 S.sure)/\w.cell? ⟨b,3,none⟩=some (.bool S.h0)/\w.cell? ⟨b,4,none⟩=some v0 ∧
  w.cell? ⟨b,5,none⟩=some (.bool S.h1)/\w.cell? ⟨b,6,none⟩=some v1/\w.cell? ⟨b,7,none⟩=some (.int .i64 S.last)/\w.cell? ⟨b,8,none⟩=some (.int .i64 S.steps) :=
 ⟨h.blk.cell 0,h.blk.cell 1,h.blk.cell 2,h.blk.cell 3,h.blk.cell 4,h.blk.cell 5,h.blk.cell 6,h.blk.cell 7,h.blk.cell 8⟩
def St.spare (S:St):List UInt8 × Bool:=if S.last=0 then (S.b1,S.h1) else (S.b0,S.h0)
theorem oI (F:Nat->Prop)(v:Value)(S:St)(w:World)(h:DK w F v S):Calls Tryz.prog 34 #[v] w fun e w'=>∃u,e=.returned u/\Own w' w.heap.size u S.log/\w.grownBy w' none:=by
 obtain ⟨b,lv,v0,v1,rfl,h⟩:=h
 obtain ⟨c0,c1,c2,c3,c4,c5,c6,c7,c8⟩:=h.cells
 have H:Hid (DKb w F b lv v0 v1 S):=h
 clear h
 go_enter Tryz.func34,Tryz.ntmps34
 go_wp2_with fail
 refine (fY _ _ _ c0 H.out.ok.cap1).mono ?_
 rintro e w1 ⟨rfl,he⟩;subst he
 go_wp2_with fail
 refine (ep _ S.log _ H.out.log.seg (by have:=H.out.ok.log;omega)).mono ?_
 rintro e w2 ⟨u,rfl,o,g⟩
 have F2:Hid _:=And.intro o g
 clear o g
 go_wp2_with fail
 go_ret
 exact ⟨_,rfl,F2.out⟩
theorem uz (F:Nat->Prop)(v:Value)(S:St)(w:World)(h:DK w F v S):Calls Tryz.prog 35 #[v] w fun e w'=>e=.returned (.int .i64 S.sure)/\w'=w:=by
 obtain ⟨b,lv,v0,v1,rfl,h⟩:=h
 obtain ⟨c0,c1,c2,c3,c4,c5,c6,c7,c8⟩:=h.cells
 exact vj b _ _ w c0 h.ok.cap1 c2
theorem vm (F:Nat->Prop)(v:Value)(S:St)(w:World)(h:DK w F v S):Calls Tryz.prog 36 #[v] w fun e w'=>e=.returned (.int .i64 S.steps)/\w'=w:=by
 obtain ⟨b,lv,v0,v1,rfl,h⟩:=h
 obtain ⟨c0,c1,c2,c3,c4,c5,c6,c7,c8⟩:=h.cells
 exact tM b _ _ w c0 h.ok.cap1 c8
theorem rM (F:Nat->Prop)(v:Value)(S:St)(w:World)(h:DK w F v S):Calls Tryz.prog 55 #[v] w fun e w'=>e=.returned (.int .i64 ((S.cap-S.log.length:Nat):Int))/\w.grownBy w' none/\w'.heap=w.heap:=by
 obtain ⟨b,lv,v0,v1,rfl,h⟩:=h
 obtain ⟨c0,c1,c2,c3,c4,c5,c6,c7,c8⟩:=h.cells
 obtain ⟨ao,cap,hsv⟩:=h.log.seg.shape
 subst hsv
 exact vk b _ _ cap ao w c0 h.ok.cap1 c1 h.ok.cap2 (by have:=h.ok.log;omega)
theorem Fr.cell {w w':World}{F:Nat->Prop}(hf:Fr w w' F){a:Addr}{v:Value}(h:w.cell? a=some v)(hn:¬F a.block):w'.cell? a=some v :=
 (World.cell?_of_block (hf.block a.block (World.block_lt_of_cell? w a h) hn)).trans h
theorem Seg.far {w w':World}{F:Nat->Prop}{u:Value}{M:List UInt8}(h:Seg w u M)(hf:Fr w w' F)(hu:M≠[]->∀k,u.ownBlock=some k->¬F k):Seg w' u M:=by
 obtain ⟨ao,cap,rfl,h1,h2,h3,h4⟩:=h
 refine ⟨ao,cap,rfl,h1,h2,h3,fun j hj=>?_⟩
 obtain ⟨b,off,e,hcell⟩:=h4 j hj
 subst e
 exact ⟨b,off,rfl,hf.cell hcell (hu (fun e=>by subst e;simp at hj) b rfl)⟩
def DAft (w:World)(F:Nat->Prop)(w':World)(v:Value)(S:St):Prop:=∃F',DK w' F' v S/\Aft w F w' F'
theorem DKb.set {w:World}{F:Nat->Prop}{b:Nat}{lv v0 v1:Value}{S S':St}(h:DKb w F b lv v0 v1 S)(i:Nat)(x:Value)(hc:(dC S lv v0 v1).setIfInBounds i x=dC S' lv v0 v1)(hl:S'.log=S.log)(h0:S'.b0=S.b0)(h1:S'.b1=S.b1)(ok:S'.Ok):DKb (w.setCell ⟨b,i,none⟩ x) F b lv v0 v1 S':=by
 have hg:=ae w b i x
 have q:∀{u L},Own w 0 u L->Own (w.setCell ⟨b,i,none⟩ x) 0 u L:=fun {u L} ho=>World.ownsRow.kept ho hg (.inr (ho.other h.blk (by decide)))
 exact ⟨by rw [<-hc];exact h.blk.store i x,by rw [hl];exact q h.log,by rw [h0];exact q h.p0,by rw [h1];exact q h.p1,h.a0,h.a1,h.inb,h.inl,h.in0,h.in1,fun k hk=>Nat.lt_of_lt_of_le (h.lt k hk) hg.size,ok⟩
theorem DKb.relog {w w':World}{F:Nat->Prop}{b:Nat}{lv v0 v1 v':Value}{S S':St}(h:DKb w F b lv v0 v1 S)(ho:Own w 0 v' S'.log)(hn:∀k,v'.ownBlock=some k->lv.ownBlock=some k\/¬F k)(hg:w.grownBy w' (some b))(hb:Blk w' b 124 (dC S' v' v0 v1))(h0:S'.b0=S.b0)(h1:S'.b1=S.b1)(ok:S'.Ok) :
  DKb w' (fun k=>F k\/v'.ownBlock=some k) b v' v0 v1 S':=by
 have q:∀{u L},Own w 0 u L->Own w' 0 u L:=fun {u L} ho=>World.ownsRow.kept ho hg (.inr (ho.other h.blk (by decide)))
 refine ⟨hb,q ho,by rw [h0];exact q h.p0,by rw [h1];exact q h.p1,fun k hk e=>?_,fun k hk e=>?_,.inl h.inb,fun k hk=>.inr hk,fun k hk=>.inl (h.in0 k hk),fun k hk=>.inl (h.in1 k hk),fun k hk=>?_,ok⟩
 ·rcases hn k hk with h2 | h2
  ·exact h.a0 k h2 e
  ·exact h2 (h.in0 k e)
 ·rcases hn k hk with h2 | h2
  ·exact h.a1 k h2 e
  ·exact h2 (h.in1 k e)
 ·rcases hk with h2 | h2
  ·exact Nat.lt_of_lt_of_le (h.lt k h2) hg.size
  ·exact Nat.lt_of_lt_of_le (ho.lt k h2).2 hg.size
def St.step (S:St):St:={ S with steps:=S.steps+1 }
theorem St.Ok.step {S:St}(h:S.Ok):S.step.Ok:=⟨h.cap1,h.cap2,h.log,h.sure,h.l0,h.l1,h.last,h.first,h.e0,h.e1⟩
theorem DKb.stepped {w:World}{F:Nat->Prop}{b:Nat}{lv v0 v1:Value}{S:St}(h:DKb w F b lv v0 v1 S):DKb (w.setCell ⟨b,8,none⟩ (.int .i64 ((S.steps+1:Nat):Int))) F b lv v0 v1 S.step :=
 h.set 8 _ rfl rfl rfl rfl h.ok.step
theorem dy {w:World}{F:Nat->Prop}{b:Nat}(hb:F b)(i:Nat)(x:Value):Aft w F (w.setCell ⟨b,i,none⟩ x) F:=⟨Fr.of (ae w b i x) (fun k hk=>by simp at hk;subst hk;exact hb),fun _ hk=>.inl hk⟩
theorem aP {w w':World}{F:Nat->Prop}(h:w.grownBy w' none):Aft w F w' F:=⟨Fr.of h (by simp),fun _ hk=>.inl hk⟩
theorem lX (v:Value)(w:World)(h:Gone w v):Calls Tryz.prog 27 #[v] w fun e w'=>e=.returned (.int .i64 1)/\w'=w:=by
 have H:Hid _:=h
 clear h
 go_enter Tryz.func27,Tryz.ntmps27
 go_wp2_with fail
 refine (iL _ _ H.out).mono ?_
 rintro e w1 ⟨rfl,he⟩;subst he
 go_wp2_with fail
 go_ret
 exact ⟨rfl,rfl⟩
theorem kU (v u:Value)(w:World)(h:Gone w v):Calls Tryz.prog 31 #[v,u] w fun e w'=>e=.returned (.int .i64 1)/\w'=w:=by
 have H:Hid _:=h
 clear h
 go_enter Tryz.func31,Tryz.ntmps31
 go_wp2_with fail
 refine (iL _ _ H.out).mono ?_
 rintro e w1 ⟨rfl,he⟩;subst he
 go_wp2_with fail
 go_ret
 exact ⟨rfl,rfl⟩
theorem rN (b:Nat)(c:Array Value)(u:Value)(M:List UInt8)(n:Int)(w:World)(hb:Blk w b 124 c)(h9:c.size=9)(hu:Seg w u M)(hM:M.length<=140737488355328) :
  Calls Tryz.prog 93 #[.pointer (some ⟨b,0,none⟩),u,.int .i64 n] w fun e w'=>e=.returned (.tuple #[])/\∃v' w1,Own w1 w.heap.size v' M/\w.grownBy w1 none/\w'=(w1.setCell ⟨b,1,none⟩ v').setCell ⟨b,2,none⟩ (.int .i64 n):=by
 have H:Hid (Blk w b 124 c/\Seg w u M):=⟨hb,hu⟩
 clear hb hu
 go_enter Tryz.func93,Tryz.ntmps93
 go_wp2_with fail
 refine (ep _ M _ H.out.2 hM).mono ?_
 rintro e w1 ⟨v',rfl,o,g⟩
 obtain ⟨ao,cap,rfl⟩:=o.seg.shape
 have hb:=H.out.1.grown g (by simp)
 have k1:w1.cell? ⟨b,1,none⟩=some c[1]:=by rw [hb.cell 1,Array.getElem?_eq_getElem (by omega)]
 have k2:w1.cell? ⟨b,2,none⟩=some c[2]:=by rw [hb.cell 2,Array.getElem?_eq_getElem (by omega)]
 have f1:=hb.free 1
 have f2:=hb.free 2
 have F2:Hid _:=And.intro o g
 clear o g hb
 go_wp2_with fail
 exact bodyPost_end (v:=.tuple #[]) (by simp [results,Tryz.results93,go_sem]) rfl ⟨rfl,_,w1,F2.out.1,F2.out.2,rfl⟩
def St.sync (S:St):St:={ S.step with sure:=S.log.length }
theorem vo (F:Nat->Prop)(v:Value)(S:St)(w:World)(h:DK w F v S)(hm:S.steps<9223372036854775807) :
  Calls Tryz.prog 27 #[v] w fun e w'=>e=.returned (.int .i64 0)/\DAft w F w' v S.sync:=by
 obtain ⟨b,lv,v0,v1,rfl,h⟩:=h
 obtain ⟨c0,c1,c2,c3,c4,c5,c6,c7,c8⟩:=h.cells
 have hf:=h.blk.free 8
 have h1:=h.stepped
 obtain ⟨ao,cap,hsv⟩:=h.log.seg.shape
 subst hsv
 have HS:Hid (DKb (w.setCell ⟨b,8,none⟩ (.int .i64 ((S.steps+1:Nat):Int))) F b (.slice ao S.log.length cap) v0 v1 S.step/\Aft w F (w.setCell ⟨b,8,none⟩ (.int .i64 ((S.steps+1:Nat):Int))) F):=⟨h1,dy h.inb _ _⟩
 have hc1:=h.ok.cap1
 clear h h1 c2 c3 c4 c5 c6 c7
 go_enter Tryz.func27,Tryz.ntmps27
 go_wp2_with fail
 refine (ju _ _ _ _ c0 hc1 c8 hf hm).mono ?_
 rintro e w1 ⟨rfl,he⟩
 rw [<-he] at HS
 clear he c0 c1 c8 hf hm hc1
 have k1:=HS.out.1.cells.2.1
 have k2:=HS.out.1.cells.2.2.1
 have f2:=HS.out.1.blk.free 2
 go_wp2_with fail
 go_ret
 refine ⟨rfl,F,⟨b,_,v0,v1,rfl,HS.out.1.set (S':=S.sync) 2 _ rfl rfl rfl rfl ?_⟩,HS.out.2.trans (dy HS.out.1.inb _ _)⟩
 have o:=HS.out.1.ok
 exact ⟨o.cap1,o.cap2,o.log,Nat.le_refl _,o.l0,o.l1,o.last,o.first,o.e0,o.e1⟩
def St.full (S:St)(M:List UInt8):Bool:=decide (S.cap-S.log.length<M.length)
def St.write (S:St)(M:List UInt8):St:=if S.full M then S.step else { S.step with log:=S.log ++ M }
def St.writeCode (S:St)(M:List UInt8):Int:=if S.full M then 7 else 0
theorem St.write_ok {S:St}{M:List UInt8}(h:S.Ok):(S.write M).Ok:=by
 unfold St.write
 cases hf:S.full M with
 | true=>exact h.step
 | false =>
  have h1:¬S.cap-S.log.length<M.length:=by simpa [St.full] using hf
  have h2:=h.cap2
  have h3:=h.log
  have h4:=h.sure
  refine ⟨h.cap1,h.cap2,?_,?_,h.l0,h.l1,h.last,h.first,h.e0,h.e1⟩
  ·simp [St.step];omega
  ·simp [St.step];omega
theorem oJ (F:Nat->Prop)(v u:Value)(S:St)(M:List UInt8)(w:World)(h:DK w F v S)(hm:S.steps<9223372036854775807)(hu:Seg w u M)(hd:M≠[]->∀k,u.ownBlock=some k->¬F k) :
  Calls Tryz.prog 31 #[v,u] w fun e w'=>e=.returned (.int .i64 (S.writeCode M))/\DAft w F w' v (S.write M):=by
 obtain ⟨b,lv,v0,v1,rfl,h⟩:=h
 obtain ⟨c0,c1,c2,c3,c4,c5,c6,c7,c8⟩:=h.cells
 have hf:=h.blk.free 8
 have h1:=h.stepped
 have hl:=h.ok.log
 have hcap:=h.ok.cap2
 have hul:=hu.len
 obtain ⟨ao,cap,hsv⟩:=h.log.seg.shape
 obtain ⟨au,cu,huv⟩:=hu.shape
 subst hsv huv
 have HS:Hid (DKb (w.setCell ⟨b,8,none⟩ (.int .i64 ((S.steps+1:Nat):Int))) F b (.slice ao S.log.length cap) v0 v1 S.step/\Aft w F (w.setCell ⟨b,8,none⟩ (.int .i64 ((S.steps+1:Nat):Int))) F/\Seg (w.setCell ⟨b,8,none⟩ (.int .i64 ((S.steps+1:Nat):Int))) (.slice au M.length cu) M):=⟨h1,dy h.inb _ _,hu.far (dy (F:=F) h.inb _ _).fr hd⟩
 have HO:Hid S.Ok:=h.ok
 have hc1:=h.ok.cap1
 clear h h1 c2 c3 c4 c5 c6 c7 hu
 go_enter Tryz.func31,Tryz.ntmps31
 go_wp2_with fail
 refine (ju _ _ _ _ c0 hc1 c8 hf hm).mono ?_
 rintro e w1 ⟨rfl,he⟩
 rw [<-he] at HS
 clear he c0 c1 c8 hf hm
 have HD:Hid (DK w1 F (.pointer (some ⟨b,0,none⟩)) S.step):=⟨b,_,v0,v1,rfl,HS.out.1⟩
 go_wp2_with fail
 refine (rM F _ S.step _ HD.out).mono ?_
 rw [show S.step.cap=S.cap from rfl,show S.step.log=S.log from rfl]
 rintro e w2 ⟨rfl,g2,hh⟩
 clear hh
 have HS2:Hid (DKb w2 F b (.slice ao S.log.length cap) v0 v1 S.step/\Aft w F w2 F/\Seg w2 (.slice au M.length cu) M):=⟨HS.out.1.grown g2,HS.out.2.1.trans (aP g2),HS.out.2.2.grown g2⟩
 clear HS HD g2
 cases hfull:S.full M with
 | true =>
  have h1:S.cap-S.log.length<M.length:=by simpa [St.full] using hfull
  have hb:decide (((S.cap-S.log.length:Nat):Int)<(M.length:Int))=true:=by simp;omega
  have e1:S.write M=S.step:=by unfold St.write;rw [hfull];rfl
  have e2:S.writeCode M=7:=by unfold St.writeCode;rw [hfull];rfl
  have E1:Hid _:=e1
  have E2:Hid _:=e2
  clear e1 e2
  go_wp2_with fail
  go_ret
  rw [E1.out,E2.out]
  exact ⟨rfl,F,⟨b,_,v0,v1,rfl,HS2.out.1⟩,HS2.out.2.1⟩
 | false =>
  have h1:¬S.cap-S.log.length<M.length:=by simpa [St.full] using hfull
  have hb:decide (((S.cap-S.log.length:Nat):Int)<(M.length:Int))=false:=by simp;omega
  have e1:S.write M={ S.step with log:=S.log ++ M }:=by unfold St.write;rw [hfull];rfl
  have e2:S.writeCode M=0:=by unfold St.writeCode;rw [hfull];rfl
  have HOK:Hid (S.write M).Ok:=St.write_ok HO.out
  rw [e1] at HOK
  have E1:Hid _:=e1
  have E2:Hid _:=e2
  clear e1 e2
  have k1:=HS2.out.1.cells.2.1
  go_wp2_with (at_builtin;refine bH _ rfl _ _ rfl 0 _ S.log _ M rfl rfl HS2.out.1.log HS2.out.2.2 ?c0 ?c1 ?_)
  case c0=>omega
  case c1=>omega
  intro v3 w3 o3 g3 l3
  obtain ⟨a3,cp3,hv3⟩:=o3.seg.shape
  subst hv3
  have hb3:Blk w3 b 124 (dC S.step (.slice ao S.log.length cap) v0 v1):=HS2.out.1.blk.grown g3 (HS2.out.1.log.other HS2.out.1.blk (by decide))
  have q1:=hb3.cell 1
  have f1:=hb3.free 1
  simp [dC] at q1
  have HF:Hid (DAft w F (w3.setCell ⟨b,1,none⟩ (.slice a3 (S.log ++ M).length cp3)) (.pointer (some ⟨b,0,none⟩)) { S.step with log:=S.log ++ M }):=by
   have hk:=HS2.out.1
   have g4:=ae w3 b 1 (.slice a3 (S.log ++ M).length cp3)
   have q:∀{u L},Own w2 0 u L->(∀k,(Value.slice ao S.log.length cap).ownBlock=some k->u.ownBlock≠some k)->Own w3 0 u L:=fun {u L} ho ha=>by
    refine World.ownsRow.kept ho g3 ?_
    cases hx:u.ownBlock with
    | none=>exact .inl rfl
    | some k=>exact .inr (fun e=>ha k e.symm hx)
   have q':∀{u L},Own w3 0 u L->Own (w3.setCell ⟨b,1,none⟩ (.slice a3 (S.log ++ M).length cp3)) 0 u L:=fun {u L} ho=>World.ownsRow.kept ho g4 (.inr (ho.other hb3 (by decide)))
   have hlt:∀k,(Value.slice a3 (S.log ++ M).length cp3).ownBlock=some k->F k\/w2.heap.size<=k:=fun k hk2=>by
    rcases l3 k hk2 with h5 | h5
    ·exact .inl (hk.inl k h5)
    ·exact .inr h5
   have hap:∀{u:Value},In F u->(∀k,(Value.slice ao S.log.length cap).ownBlock=some k->u.ownBlock≠some k)->∀k,(Value.slice a3 (S.log ++ M).length cp3).ownBlock=some k->u.ownBlock≠some k:=fun {u} hin ha k hk2 e=>by
    rcases l3 k hk2 with h5 | h5
    ·exact ha k h5 e
    ·have:=hk.lt k (hin k e);omega
   refine ⟨fun k=>F k\/(Value.slice a3 (S.log ++ M).length cp3).ownBlock=some k,⟨b,_,v0,v1,rfl,⟨hb3.store 1 _,q' o3,q' (q hk.p0 hk.a0),q' (q hk.p1 hk.a1),hap hk.in0 hk.a0,hap hk.in1 hk.a1,.inl hk.inb,fun k h=>.inr h,fun k h=>.inl (hk.in0 k h),fun k h=>.inl (hk.in1 k h),?_,HOK.out⟩⟩,?_⟩
   ·intro k h
    have hs3:=g3.size
    have hs4:=g4.size
    rcases h with h | h
    ·have:=hk.lt k h;omega
    ·have:=(o3.lt k h).2;omega
   ·refine HS2.out.2.1.trans ⟨Fr.trans (Fr.of g3 (fun k h=>hk.inl k h)) (Fr.of (F:=F) g4 (fun k h=>by simp at h;subst h;exact hk.inb)) (fun k h=>.inl h),fun k h=>?_⟩
    rcases h with h | h
    ·exact .inl h
    ·exact hlt k h
  clear o3 g3 l3 hb3
  rw [List.length_append] at HF
  go_wp2_with fail
  go_ret
  rw [E1.out,E2.out]
  exact ⟨rfl,HF.out⟩
def St.dropBad (S:St)(n:Int):Bool:=decide (n<0\/(S.sure:Int)<n)
def St.drop (S:St)(n:Int):St:=if S.dropBad n then S.step else { S.step with log:=S.log.drop n.toNat,sure:=S.sure-n.toNat }
def St.dropCode (S:St)(n:Int):Int:=if S.dropBad n then 2 else 0
theorem St.drop_ok {S:St}{n:Int}(h:S.Ok):(S.drop n).Ok:=by
 unfold St.drop
 cases hf:S.dropBad n with
 | true=>exact h.step
 | false =>
  have h1:¬(n<0\/(S.sure:Int)<n):=by simpa [St.dropBad] using hf
  have h3:=h.log
  have h4:=h.sure
  refine ⟨h.cap1,h.cap2,?_,?_,h.l0,h.l1,h.last,h.first,h.e0,h.e1⟩
  ·simp;omega
  ·simp;omega
theorem DKb.held {w w1:World}{F:Nat->Prop}{b:Nat}{lv v0 v1 v':Value}{S S':St}{n:Nat}(h:DKb w F b lv v0 v1 S)(g:w.grownBy w1 none)(o:Own w1 w.heap.size v' S'.log)(hS:S'={ S with log:=S'.log,sure:=n })(ok:S'.Ok) :
  DAft w F ((w1.setCell ⟨b,1,none⟩ v').setCell ⟨b,2,none⟩ (.int .i64 (n:Int))) (.pointer (some ⟨b,0,none⟩)) S':=by
 have h1:=h.grown g
 have g2:w1.grownBy ((w1.setCell ⟨b,1,none⟩ v').setCell ⟨b,2,none⟩ (.int .i64 (n:Int))) (some b):=aa (ae _ _ _ _) (ae _ _ _ _)
 have hb:Blk ((w1.setCell ⟨b,1,none⟩ v').setCell ⟨b,2,none⟩ (.int .i64 (n:Int))) b 124 (dC S' v' v0 v1):=by
  rw [hS]
  exact (h1.blk.store 1 _).store 2 _
 have hn:∀k,v'.ownBlock=some k->¬F k:=fun k hk hF=>by
  have:=(o.lt k hk).1
  have:=h.lt k hF
  omega
 refine ⟨fun k=>F k\/v'.ownBlock=some k,⟨b,v',v0,v1,rfl,h1.relog (o.mono (Nat.zero_le _)) (fun k hk=>.inr (hn k hk)) g2 hb (by rw [hS]) (by rw [hS]) ok⟩,⟨Fr.trans (Fr.of (F:=F) g (by simp)) (Fr.of (F:=F) g2 (fun k hk=>by simp at hk;subst hk;exact h.inb)) (fun k hk=>.inl hk),fun k hk=>?_⟩⟩
 rcases hk with hk | hk
 ·exact .inl hk
 ·exact .inr (o.lt k hk).1
theorem DAft.after {w w1 w':World}{F:Nat->Prop}{v:Value}{S:St}(h:DAft w1 F w' v S)(ha:Aft w F w1 F):DAft w F w' v S:=by
 obtain ⟨F',h1,h2⟩:=h
 exact ⟨F',h1,ha.trans h2⟩
theorem vp (F:Nat->Prop)(v:Value)(S:St)(n:Int)(w:World)(h:DK w F v S)(hm:S.steps<9223372036854775807) :
  Calls Tryz.prog 60 #[v,.int .i64 n] w fun e w'=>e=.returned (.int .i64 (S.dropCode n))/\DAft w F w' v (S.drop n):=by
 obtain ⟨b,lv,v0,v1,rfl,h⟩:=h
 obtain ⟨c0,c1,c2,c3,c4,c5,c6,c7,c8⟩:=h.cells
 have hf:=h.blk.free 8
 have h1:=h.stepped
 have hl:=h.ok.log
 have hsl:=h.ok.sure
 obtain ⟨ao,cap,hsv⟩:=h.log.seg.shape
 subst hsv
 have hcp:S.log.length<=cap/\cap<=9223372036854775807:=by
  obtain ⟨ao',cap',hv,q1,q2,_⟩:=h.log.seg
  simp at hv;unfold maxLen at q2;omega
 obtain ⟨hcp1,hcp2⟩:=hcp
 have HS:Hid (DKb (w.setCell ⟨b,8,none⟩ (.int .i64 ((S.steps+1:Nat):Int))) F b (.slice ao S.log.length cap) v0 v1 S.step/\Aft w F (w.setCell ⟨b,8,none⟩ (.int .i64 ((S.steps+1:Nat):Int))) F):=⟨h1,dy h.inb _ _⟩
 have HO:Hid S.Ok:=h.ok
 have hc1:=h.ok.cap1
 clear h h1 c2 c3 c4 c5 c6 c7
 cases hbad:S.dropBad n with
 | true =>
  have q:n<0\/(S.sure:Int)<n:=by simpa [St.dropBad] using hbad
  have e1:Hid (S.drop n=S.step):=by unfold Hid St.drop;rw [hbad];rfl
  have e2:Hid (S.dropCode n=2):=by unfold Hid St.dropCode;rw [hbad];rfl
  clear hbad
  by_cases hneg:n<0
  ·clear q
   go_enter Tryz.func60,Tryz.ntmps60
   go_wp2_with fail
   refine (ju _ _ _ _ c0 hc1 c8 hf hm).mono ?_
   rintro e w1 ⟨rfl,he⟩
   rw [<-he] at HS
   clear he c0 c1 c8 hf hm
   have k2:=HS.out.1.cells.2.2.1
   go_wp2_with fail
   go_ret
   rw [e1.out,e2.out]
   exact ⟨rfl,F,⟨b,_,v0,v1,rfl,HS.out.1⟩,HS.out.2⟩
  ·have q2:(S.sure:Int)<n:=by omega
   clear q
   go_enter Tryz.func60,Tryz.ntmps60
   go_wp2_with fail
   refine (ju _ _ _ _ c0 hc1 c8 hf hm).mono ?_
   rintro e w1 ⟨rfl,he⟩
   rw [<-he] at HS
   clear he c0 c1 c8 hf hm
   have k2:w1.cell? ⟨b,2,none⟩=some (.int .i64 S.sure):=HS.out.1.cells.2.2.1
   go_wp2_with fail
   go_ret
   rw [e1.out,e2.out]
   exact ⟨rfl,F,⟨b,_,v0,v1,rfl,HS.out.1⟩,HS.out.2⟩
 | false =>
  have q:¬(n<0\/(S.sure:Int)<n):=by simpa [St.dropBad] using hbad
  obtain ⟨m,rfl⟩:∃m:Nat,n=m:=⟨n.toNat,by omega⟩
  have hm1:m<=S.sure:=by omega
  have hm2:m<=S.log.length:=by omega
  have e1:Hid (S.drop (m:Int)={ S.step with log:=S.log.drop m,sure:=S.sure-m }):=by unfold Hid St.drop;rw [hbad];rfl
  have e2:Hid (S.dropCode (m:Int)=0):=by unfold Hid St.dropCode;rw [hbad];rfl
  have HOK:Hid (S.drop m).Ok:=St.drop_ok HO.out
  rw [e1.out] at HOK
  clear hbad q
  have i1:(m:Int)<=(S.log.length:Int):=by omega
  have i2:(m:Int)<=(cap:Int):=by omega
  have i3:(m:Int)<=(S.sure:Int):=by omega
  go_enter Tryz.func60,Tryz.ntmps60
  go_wp2_with fail
  refine (ju _ _ _ _ c0 hc1 c8 hf hm).mono ?_
  rintro e w1 ⟨rfl,he⟩
  rw [<-he] at HS
  clear he c0 c1 c8 hf hm
  have k2:w1.cell? ⟨b,2,none⟩=some (.int .i64 S.sure):=HS.out.1.cells.2.2.1
  have k1:=HS.out.1.cells.2.1
  go_wp2_with fail
  have HC:Hid (∀x:World,w1.grownBy x none->x.cell? ⟨b,1,none⟩=some (.slice ao S.log.length cap)/\x.cell? ⟨b,2,none⟩=some (.int .i64 S.sure)):=fun x hx=>⟨hx.cell k1 (by simp),hx.cell k2 (by simp)⟩
  have hsub:IntKind.i64.wrap ((S.sure:Int)-(m:Int))=((S.sure-m:Nat):Int):=by
   simp only [IntKind.wrap,IntKind.bits,IntKind.signed];simp;omega
  by_cases hcm:cap=m
  ·have HSG:Hid (Seg w1 (.slice ao (S.log.length-m) 0) (S.log.drop m)):=bk m hm2 hcm HS.out.1.log.seg
   refine wp_region_noPanic ?_
   refine am 13 (fun x=>w1.grownBy x none) (by kernel_rfl) ?_
   have J:Idx [0,1,2,3,4,5,6,7,8,9,10,11,12]:=trivial
   iterate 13 (refine tK J (af _ _) rfl rfl (fun wk hk=>by obtain ⟨k0,k1⟩:=HC.out wk hk;go_simp;try rfl) ?_;replace J:=J.tl;try simp only [pN])
   refine wO 13 rfl fun K hK=>?_
   go_simp
   refine (rN b _ _ (S.log.drop m) ((S.sure-m:Nat):Int) _ (HS.out.1.blk.grown (af _ none) (by simp)) rfl (Seg.grown HSG.out (af _ none)) (by simp;omega)).mono ?_
   rintro e w2 ⟨rfl,v',w3,o,g,he⟩
   have HF:Hid (DAft w F w2 (.pointer (some ⟨b,0,none⟩)) { S.step with log:=S.log.drop m,sure:=S.sure-m }):=by
    rw [he]
    exact DAft.after (DKb.held (S':={ S.step with log:=S.log.drop m,sure:=S.sure-m }) (HS.out.1.grown (af _ none)) g o rfl HOK.out) (HS.out.2.trans (aP (af _ none)))
   clear he o g
   go_wp2_with fail
   refine hK.out _ _ (fun h=>absurd rfl h) ?_
   clear hK K
   try simp only [pN]
   refine wD ?_
   refine (‹∀(a:Act) (w:World),Code.wp Tryz.prog _ _ a w->_› _ _ ?_)
   go_wp2_with fail
   go_ret
   rw [e1.out,e2.out]
   exact ⟨rfl,HF.out⟩
  ·have HSG:Hid (Seg w1 (.slice (Option.map (fun x=>x.add m) ao) (S.log.length-m) (cap-m)) (S.log.drop m)):=bC m hm2 HS.out.1.log.seg
   refine wp_region_noPanic ?_
   refine am 13 (fun x=>w1.grownBy x none) (by kernel_rfl) ?_
   have J:Idx [0,1,2,3,4,5,6,7,8,9,10,11,12]:=trivial
   iterate 13 (refine tK J (af _ _) rfl rfl (fun wk hk=>by obtain ⟨k0,k1⟩:=HC.out wk hk;go_simp;try rfl) ?_;replace J:=J.tl;try simp only [pN])
   refine wO 13 rfl fun K hK=>?_
   go_simp
   refine (rN b _ _ (S.log.drop m) ((S.sure-m:Nat):Int) _ (HS.out.1.blk.grown (af _ none) (by simp)) rfl (Seg.grown HSG.out (af _ none)) (by simp;omega)).mono ?_
   rintro e w2 ⟨rfl,v',w3,o,g,he⟩
   have HF:Hid (DAft w F w2 (.pointer (some ⟨b,0,none⟩)) { S.step with log:=S.log.drop m,sure:=S.sure-m }):=by
    rw [he]
    exact DAft.after (DKb.held (S':={ S.step with log:=S.log.drop m,sure:=S.sure-m }) (HS.out.1.grown (af _ none)) g o rfl HOK.out) (HS.out.2.trans (aP (af _ none)))
   clear he o g
   go_wp2_with fail
   refine hK.out _ _ (fun h=>absurd rfl h) ?_
   clear hK K
   try simp only [pN]
   refine wD ?_
   refine (‹∀(a:Act) (w:World),Code.wp Tryz.prog _ _ a w->_› _ _ ?_)
   go_wp2_with fail
   go_ret
   rw [e1.out,e2.out]
   exact ⟨rfl,HF.out⟩
def St.put (S:St)(M:List UInt8):St:=if S.last=0 then { S.step with h1:=true,b1:=M } else { S.step with h0:=true,b0:=M }
def DNew (w w':World)(v:Value)(S:St):Prop:=w.grownBy w' none/\∃F,DK w' F v S/\∀k,F k->w.heap.size<=k
theorem idx0 (x0 x1 x2 x3:Value)(w:World):(Instr.index 122 (.agg #[x0,x1,x2,x3]) (.int .i64 0)).run Tryz.prog w=.ok (.agg #[x0,x1]) w:=by kernel_rfl
theorem idx1 (x0 x1 x2 x3:Value)(w:World):(Instr.index 122 (.agg #[x0,x1,x2,x3]) (.int .i64 1)).run Tryz.prog w=.ok (.agg #[x2,x3]) w:=by kernel_rfl
theorem km (F:Nat->Prop)(v u:Value)(S:St)(M:List UInt8)(n k:Nat)(w:World)(h:DK w F v S)(hu:Seg w u M)(hM:M.length<=140737488351232)(hn:n<=M.length) :
  Calls Tryz.prog 64 #[v,u,.int .i64 n,.int .i64 k] w fun e w'=>∃p,e=.returned p/\DNew w w' p { S with log:=M,sure:=n,steps:=k }:=by
 obtain ⟨b,lv,v0,v1,rfl,h⟩:=h
 obtain ⟨c0,c1,c2,c3,c4,c5,c6,c7,c8⟩:=h.cells
 obtain ⟨a0,cp0,e0⟩:=h.p0.seg.shape
 obtain ⟨a1,cp1,e1⟩:=h.p1.seg.shape
 subst e0 e1
 obtain ⟨au,cu,huv⟩:=hu.shape
 subst huv
 have HS:Hid (DKb w F b lv (.slice a0 S.b0.length cp0) (.slice a1 S.b1.length cp1) S/\Seg w (.slice au M.length cu) M):=⟨h,hu⟩
 have HT:Hid (Blk (w.alloc (.cells #[.bool S.h0,.slice a0 S.b0.length cp0,.bool S.h1,.slice a1 S.b1.length cp1] 122)) w.heap.size 122 #[.bool S.h0,.slice a0 S.b0.length cp0,.bool S.h1,.slice a1 S.b1.length cp1]/\w.grownBy (w.alloc (.cells #[.bool S.h0,.slice a0 S.b0.length cp0,.bool S.h1,.slice a1 S.b1.length cp1] 122)) none):=⟨heap_alloc_new _ _,World.grownBy_alloc _ _ _⟩
 clear h hu
 go_enter Tryz.func64,Tryz.ntmps64
 go_wp2_with fail
 generalize w.alloc (.cells #[.bool S.h0,.slice a0 S.b0.length cp0,.bool S.h1,.slice a1 S.b1.length cp1] 122)=w0 at HT ⊢
 clear c0 c1 c2 c3 c4 c5 c6 c7 c8
 have ix0:=idx0
 have ix1:=idx1
 refine wp_loop_rounds 3 ?_
 rw [rounds_succ]
 go_wp2_with fail
 refine (ep _ S.b0 _ (HS.out.1.p0.seg.grown (aa HT.out.2 gA_)) (by have:=HS.out.1.ok.l0;omega)).mono ?_
 rintro e w1 ⟨u0,rfl,o0,g0⟩
 obtain ⟨x0,y0,e0⟩:=o0.seg.shape
 subst e0
 have HB:Hid (Blk w1 w.heap.size 122 #[.bool S.h0,.slice a0 S.b0.length cp0,.bool S.h1,.slice a1 S.b1.length cp1]):=(HT.out.1.grown gA_ (by simp)).grown g0 (by simp)
 have HO:Hid (Own (w1.setCell ⟨w.heap.size,1,none⟩ (.slice x0 S.b0.length y0)) (w.heap.size+1) (.slice x0 S.b0.length y0) S.b0/\w.grownBy (w1.setCell ⟨w.heap.size,1,none⟩ (.slice x0 S.b0.length y0)) none/\Blk (w1.setCell ⟨w.heap.size,1,none⟩ (.slice x0 S.b0.length y0)) w.heap.size 122 #[.bool S.h0,.slice x0 S.b0.length y0,.bool S.h1,.slice a1 S.b1.length cp1]):=by
  have hg:w.grownBy w1 none:=aa HT.out.2 (aa gA_ g0)
  refine ⟨Own.mono (World.ownsRow.kept o0 (ae _ _ _ _) (.inr (o0.other HB.out (by decide)))) ?_,ah hg (ae _ _ _ _) (by intro x hx;simp at hx;omega),HB.out.store 1 _⟩
  have:=HT.out.1.lt
  have:=(World.grownBy_alloc w0 (.cells #[.bool S.h0,.slice a0 S.b0.length cp0] 121) none).size
  omega
 have k1:=HB.out.cell 1
 have f1:=HB.out.free 1
 simp at k1
 clear o0 g0 HT
 go_wp2_with fail
 generalize w1.setCell ⟨w.heap.size,1,none⟩ (.slice x0 S.b0.length y0)=w2 at HO ⊢
 clear HB k1 f1
 rw [rounds_succ]
 go_wp2_with fail
 refine (ep _ S.b1 _ (HS.out.1.p1.seg.grown (aa HO.out.2.1 gA_)) (by have:=HS.out.1.ok.l1;omega)).mono ?_
 rintro e w3 ⟨u1,rfl,o1,g1⟩
 obtain ⟨x1,y1,e1⟩:=o1.seg.shape
 subst e1
 have HB:Hid (Blk w3 w.heap.size 122 #[.bool S.h0,.slice x0 S.b0.length y0,.bool S.h1,.slice a1 S.b1.length cp1]/\w.heap.size<w2.heap.size):=⟨(HO.out.2.2.grown gA_ (by simp)).grown g1 (by simp),HO.out.2.2.lt⟩
 have HP:Hid (Own (w3.setCell ⟨w.heap.size,3,none⟩ (.slice x1 S.b1.length y1)) (w.heap.size+1) (.slice x0 S.b0.length y0) S.b0/\Own (w3.setCell ⟨w.heap.size,3,none⟩ (.slice x1 S.b1.length y1)) (w.heap.size+1) (.slice x1 S.b1.length y1) S.b1/\w.grownBy (w3.setCell ⟨w.heap.size,3,none⟩ (.slice x1 S.b1.length y1)) none/\Blk (w3.setCell ⟨w.heap.size,3,none⟩ (.slice x1 S.b1.length y1)) w.heap.size 122 #[.bool S.h0,.slice x0 S.b0.length y0,.bool S.h1,.slice x1 S.b1.length y1]):=by
  have g23:w2.grownBy w3 none:=aa gA_ g1
  have hg:w.grownBy w3 none:=aa HO.out.2.1 g23
  have oo:=HO.out.1.grown g23
  refine ⟨World.ownsRow.kept oo (ae _ _ _ _) (.inr (oo.other HB.out.1 (by decide))),Own.mono (World.ownsRow.kept o1 (ae _ _ _ _) (.inr (o1.other HB.out.1 (by decide)))) ?_,ah hg (ae _ _ _ _) (by intro x hx;simp at hx;omega),HB.out.1.store 3 _⟩
  have:=HB.out.2
  have:=(World.grownBy_alloc w2 (.cells #[.bool S.h1,.slice a1 S.b1.length cp1] 121) none).size
  omega
 have k1:=HB.out.1.cell 3
 have f1:=HB.out.1.free 3
 simp at k1
 clear o1 g1 HO
 go_wp2_with fail
 generalize w3.setCell ⟨w.heap.size,3,none⟩ (.slice x1 S.b1.length y1)=w4 at HP ⊢
 clear HB k1 f1
 rw [rounds_succ]
 go_wp2_with fail
 have HC:Hid (∀x:World,w4.grownBy x none->x.cell? ⟨b,0,none⟩=some (.int .i64 S.cap)/\x.cell? ⟨b,7,none⟩=some (.int .i64 S.last)/\x.cell? ⟨w.heap.size,0,none⟩=some (.bool S.h0)/\x.cell? ⟨w.heap.size,1,none⟩=some (.slice x0 S.b0.length y0)/\x.cell? ⟨w.heap.size,2,none⟩=some (.bool S.h1)/\x.cell? ⟨w.heap.size,3,none⟩=some (.slice x1 S.b1.length y1)):=fun x hx=>by
  have hb:=HS.out.1.blk.grown (aa HP.out.2.2.1 hx) (by simp)
  have hc:=HP.out.2.2.2.grown hx (by simp)
  exact ⟨hb.cell 0,hb.cell 7,hc.cell 0,hc.cell 1,hc.cell 2,hc.cell 3⟩
 clear ix0 ix1
 refine wp_region_noPanic ?_
 refine am 1000 (fun x=>w4.grownBy x none) (by kernel_rfl) ?_
 have J:Idx [0,1,2,3,4,6,7,8,9,10,11,12]:=trivial
 iterate 12 (refine tK J (af _ _) rfl rfl (fun wk hk=>by obtain ⟨k0,k1,k2,k3,k4,k5⟩:=HC.out wk hk;go_simp;try rfl) ?_;replace J:=J.tl;try simp only [pN])
 refine wO 5 rfl fun K hK=>?_
 go_simp
 refine (ep _ M _ (Seg.grown HS.out.2 (aa HP.out.2.2.1 (af _ _))) (by omega)).mono ?_
 rintro e w5 ⟨u5,rfl,o5,g5⟩
 obtain ⟨x5,y5,e5⟩:=o5.seg.shape
 subst e5
 have G5:Hid (w4.grownBy w5 none/\Own w5 w4.heap.size (.slice x5 M.length y5) M):=⟨aa (af _ _) g5,o5⟩
 clear o5 g5
 go_wp2_with fail
 refine hK.out _ _ (fun _=>G5.out.1) ?_
 clear hK K
 try simp only [pN]
 refine tS 13 (G5.out.1) rfl rfl (fun wk hk=>by obtain ⟨k0,k1,k2,k3,k4,k5⟩:=HC.out wk hk;go_simp;try rfl) ?_
 try simp only [pN]
 refine wO 14 rfl fun K hK=>?_
 go_wp2_with fail
 refine hK.out _ _ (fun _=>aa G5.out.1 (World.grownBy_alloc _ _ _)) ?_
 clear hK K
 try simp only [pN]
 refine tS 15 (aa G5.out.1 (World.grownBy_alloc _ _ _)) rfl rfl (fun wk hk=>by obtain ⟨k0,k1,k2,k3,k4,k5⟩:=HC.out wk hk;go_simp;try rfl) ?_
 try simp only [pN]
 refine wD ?_
 refine (‹∀(a:Act) (w:World),Code.wp Tryz.prog Code.ret _ a w->_› _ _ ?_)
 go_wp2_with fail
 go_ret
 refine ⟨_,rfl,aa HP.out.2.2.1 (aa G5.out.1 (World.grownBy_alloc _ _ _)),fun k=>w.heap.size<=k/\k<w5.heap.size+1,⟨w5.heap.size,.slice x5 M.length y5,.slice x0 S.b0.length y0,.slice x1 S.b1.length y1,rfl,?_⟩,fun k hk=>hk.1⟩
 have hz4:=HP.out.2.2.1.size
 have hz5:=G5.out.1.size
 have g6:=World.grownBy_alloc w5 (.cells (dC { S with log:=M,sure:=n,steps:=k } (.slice x5 M.length y5) (.slice x0 S.b0.length y0) (.slice x1 S.b1.length y1)) 124) none
 have q0:=HP.out.1.grown G5.out.1
 have q1:=HP.out.2.1.grown G5.out.1
 have ok:=HS.out.1.ok
 refine ⟨heap_alloc_new _ _,Own.mono (Own.grown G5.out.2 g6) (Nat.zero_le _),Own.mono (Own.grown q0 g6) (Nat.zero_le _),Own.mono (Own.grown q1 g6) (Nat.zero_le _),fun k hk e=>?_,fun k hk e=>?_,⟨by omega,by omega⟩,fun k hk=>?_,fun k hk=>?_,fun k hk=>?_,fun k hk=>?_,⟨ok.cap1,ok.cap2,hM,hn,ok.l0,ok.l1,ok.last,ok.first,ok.e0,ok.e1⟩⟩
 ·have h1:=(G5.out.2.lt k hk).1
  have h2:=(HP.out.1.lt k e).2
  omega
 ·have h1:=(G5.out.2.lt k hk).1
  have h2:=(HP.out.2.1.lt k e).2
  omega
 ·have h1:=G5.out.2.lt k hk
  exact ⟨by omega,by omega⟩
 ·have h1:=q0.lt k hk
  exact ⟨by omega,by omega⟩
 ·have h1:=q1.lt k hk
  exact ⟨by omega,by omega⟩
 ·have:=hk.2
  simp
  omega
theorem DNew.of {w w0 w':World}{v:Value}{S:St}(h:DNew w0 w' v S)(hg:w.grownBy w0 none):DNew w w' v S:=by
 obtain ⟨h1,F,h2,h3⟩:=h
 exact ⟨aa hg h1,F,h2,fun k hk=>Nat.le_trans hg.size (h3 k hk)⟩
theorem lY (v:Value)(n:Int)(w:World)(h:Gone w v):Calls Tryz.prog 29 #[v,.int .i64 n] w fun e w'=>e=.returned (.pointer none)/\w'=w:=by
 have H:Hid _:=h
 clear h
 go_enter Tryz.func29,Tryz.ntmps29
 go_wp2_with fail
 refine (dL _ _ H.out).mono ?_
 rintro e w1 ⟨rfl,he⟩;subst he
 go_wp2_with fail
 go_ret
 exact ⟨rfl,rfl⟩
def St.keeps (S:St)(keep:Int):Nat:=S.sure+min keep.toNat (S.log.length-S.sure)
def St.stop (S:St)(keep:Int):St:={ S with log:=S.log.take (S.keeps keep),sure:=S.keeps keep,steps:=0 }
attribute [local go_sem ↓] jv jw gX
theorem vq (F:Nat->Prop)(v:Value)(S:St)(keep:Int)(w:World)(h:DK w F v S) :
  Calls Tryz.prog 29 #[v,.int .i64 keep] w fun e w'=>∃p,e=.returned p/\DNew w w' p (S.stop keep):=by
 obtain ⟨b,lv,v0,v1,rfl,h⟩:=h
 obtain ⟨c0,c1,c2,c3,c4,c5,c6,c7,c8⟩:=h.cells
 obtain ⟨ao,cap,hsv⟩:=h.log.seg.shape
 subst hsv
 have hl:=h.ok.log
 have hsl:=h.ok.sure
 have hkl:S.keeps keep<=S.log.length:=by unfold St.keeps;omega
 have hcp:S.log.length<=cap/\cap<=9223372036854775807:=by
  obtain ⟨ao',cap',hv,q1,q2,_⟩:=h.log.seg
  simp at hv;unfold maxLen at q2;omega
 obtain ⟨hcp1,hcp2⟩:=hcp
 have HD:Hid (DK w F (.pointer (some ⟨b,0,none⟩)) S):=⟨b,_,v0,v1,rfl,h⟩
 have H:Hid (DKb w F b (.slice ao S.log.length cap) v0 v1 S):=h
 have hc1:=h.ok.cap1
 clear h c3 c4 c5 c6 c7 c8
 go_enter Tryz.func29,Tryz.ntmps29
 go_wp2_with fail
 refine (fY _ _ _ c0 hc1).mono ?_
 rintro e w1 ⟨rfl,he⟩;subst he
 go_wp2_with fail
 go_quiet (fail)
 go_wp2_with fail
 ·have ek:(S.sure:Int)+((S.log.length:Int)-(S.sure:Int))=((S.keeps keep:Nat):Int):=by unfold St.keeps;omega
  rw [ek]
  rw [Int.toNat_natCast]
  refine (km F _ _ S (S.log.take (S.keeps keep)) (S.keeps keep) 0 _ (HD.out.grown (ax _ _ _)) (Seg.grown (bB _ hkl H.out.log.seg) (ax _ _ _)) (by simp;omega) (by simp;omega)).mono ?_
  rintro e w2 ⟨p,rfl,hp⟩
  have HP:Hid (DNew w1 w2 p (S.stop keep)):=DNew.of hp (ax _ _ _)
  clear hp
  go_wp2_with fail
  go_ret
  exact ⟨_,rfl,HP.out⟩
 ·have ek:(S.sure:Int)+max keep 0=((S.keeps keep:Nat):Int):=by unfold St.keeps;omega
  rw [ek]
  rw [Int.toNat_natCast]
  refine (km F _ _ S (S.log.take (S.keeps keep)) (S.keeps keep) 0 _ (HD.out.grown (ax _ _ _)) (Seg.grown (bB _ hkl H.out.log.seg) (ax _ _ _)) (by simp;omega) (by simp;omega)).mono ?_
  rintro e w2 ⟨p,rfl,hp⟩
  have HP:Hid (DNew w1 w2 p (S.stop keep)):=DNew.of hp (ax _ _ _)
  clear hp
  go_wp2_with fail
  go_ret
  exact ⟨_,rfl,HP.out⟩
def Segs (w:World)(v:Value)(Ls:List (List UInt8)):Prop :=
 ∃ao cap,v=.slice ao Ls.length cap/\Ls.length<=9223372036854775807/\∀j (hj:j<Ls.length),∃b off x,ao=some ⟨b,off,none⟩/\w.cell? ⟨b,off+j,none⟩=some x/\Seg w x Ls[j]
theorem Segs.grown {w w':World}{v:Value}{Ls:List (List UInt8)}(h:Segs w v Ls)(hg:w.grownBy w' none):Segs w' v Ls:=by
 obtain ⟨ao,cap,h1,h2,h3⟩:=h
 refine ⟨ao,cap,h1,h2,fun j hj=>?_⟩
 obtain ⟨b,off,x,q1,q2,q3⟩:=h3 j hj
 exact ⟨b,off,x,q1,hg.cell q2 (by simp),q3.grown hg⟩
theorem fI (w:World):Segs w (.slice none 0 0) []:=⟨none,0,rfl,by simp,fun j hj=>absurd hj (by simp)⟩
def St.of (c:Nat)(log:List UInt8)(Ls:List (List UInt8)):St:={ cap:=c,log:=log,sure:=log.length,h0:=decide (0<Ls.length),b0:=Ls.getD 0 [],h1:=decide (1<Ls.length),b1:=Ls.getD 1 [],last:=if Ls.length=0 then 1 else 0,steps:=0 }
theorem lZ (h0 h1:Bool)(v0 v1:Value)(w:World):Calls Tryz.prog 90 #[.agg #[.bool h0,v0,.bool h1,v1]] w fun e w'=>e=.returned (.int .i64 (if h0 then 0 else 1))/\w.grownBy w' none:=by
 cases h0
 all_goals
  go_enter Tryz.func90,Tryz.ntmps90
  go_wp2_with fail
  go_ret
  exact ⟨rfl,World.grownBy_alloc _ _ _⟩
theorem tN (c:Int)(u v:Value)(log:List UInt8)(Ls:List (List UInt8))(w:World)(_hu:Seg w u log)(hv:Segs w v Ls)(hbad:c<1\/1048576<c\/2<Ls.length) :
  Calls Tryz.prog 52 #[.int .i64 c,u,v] w fun e w'=>e=.returned (.tuple #[.pointer none,.int .i64 2])/\w.grownBy w' none:=by
 obtain ⟨ao,cap,rfl,hlen,_⟩:=hv
 by_cases h1:c<1
 ·go_enter Tryz.func52,Tryz.ntmps52
  go_wp2_with fail
  go_ret2
  exact ⟨rfl,World.grownBy_alloc _ _ _⟩
 ·by_cases h2:1048576<c
  ·go_enter Tryz.func52,Tryz.ntmps52
   go_wp2_with fail
   go_ret2
   exact ⟨rfl,World.grownBy_alloc _ _ _⟩
  ·have h3:2<Ls.length:=by omega
   have h4:(2:Int)<(Ls.length:Int):=by omega
   clear hbad
   go_enter Tryz.func52,Tryz.ntmps52
   go_wp2_with fail
   go_ret2
   exact ⟨rfl,World.grownBy_alloc _ _ _⟩
theorem vV (c:Nat)(u v:Value)(log:List UInt8)(w:World)(hu:Seg w u log)(hv:Segs w v [])(hc1:1<=c)(hc2:c<=1048576)(hl:log.length<=140737488351232) :
  Calls Tryz.prog 52 #[.int .i64 c,u,v] w fun e w'=>∃p,e=.returned (.tuple #[p,.int .i64 0])/\DNew w w' p (St.of c log []):=by
 obtain ⟨ao,cap,rfl,hlen,hcells⟩:=hv
 obtain ⟨au,cu,huv⟩:=hu.shape
 subst huv
 have HU:Hid (Seg w (.slice au log.length cu) log):=hu
 have HT:Hid (Blk (w.alloc (.cells #[.bool false,.slice none 0 0,.bool false,.slice none 0 0] 122)) w.heap.size 122 #[.bool false,.slice none 0 0,.bool false,.slice none 0 0]/\w.grownBy (w.alloc (.cells #[.bool false,.slice none 0 0,.bool false,.slice none 0 0] 122)) none):=⟨heap_alloc_new _ _,World.grownBy_alloc _ _ _⟩
 clear hu hcells hlen
 go_enter Tryz.func52,Tryz.ntmps52
 go_wp2_with fail
 generalize w.alloc (.cells #[.bool false,.slice none 0 0,.bool false,.slice none 0 0] 122)=w0 at HT ⊢
 refine wp_loop_rounds 1 ?_
 rw [rounds_succ]
 go_wp2_with fail
 have HC:Hid (∀x:World,w0.grownBy x none->x.cell? ⟨w.heap.size,0,none⟩=some (.bool false)/\x.cell? ⟨w.heap.size,1,none⟩=some (.slice none 0 0)/\x.cell? ⟨w.heap.size,2,none⟩=some (.bool false)/\x.cell? ⟨w.heap.size,3,none⟩=some (.slice none 0 0)):=fun x hx=>by
  have hc:=HT.out.1.grown hx (by simp)
  exact ⟨hc.cell 0,hc.cell 1,hc.cell 2,hc.cell 3⟩
 refine wp_region_noPanic ?_
 refine am 1000 (fun x=>w0.grownBy x none) (by kernel_rfl) ?_
 have J:Idx [0,1,3,4,5,6]:=trivial
 iterate 6 (refine tK J (af _ _) rfl rfl (fun wk hk=>by obtain ⟨k0,k1,k2,k3⟩:=HC.out wk hk;go_simp;try rfl) ?_;replace J:=J.tl;try simp only [pN])
 refine wO 2 rfl fun K hK=>?_
 go_simp
 refine (ep _ log _ (Seg.grown HU.out (aa HT.out.2 (af _ _))) (by omega)).mono ?_
 rintro e w5 ⟨u5,rfl,o5,g5⟩
 obtain ⟨x5,y5,e5⟩:=o5.seg.shape
 subst e5
 have G5:Hid (w0.grownBy w5 none/\Own w5 w0.heap.size (.slice x5 log.length y5) log):=⟨aa (af _ _) g5,o5⟩
 clear o5 g5
 go_wp2_with fail
 refine hK.out _ _ (fun _=>G5.out.1) ?_
 clear hK K
 try simp only [pN]
 refine wO 7 rfl fun K hK=>?_
 go_simp
 refine (lZ _ _ _ _ _).mono ?_
 rintro e w6 ⟨rfl,g6⟩
 have G6:Hid (w0.grownBy w6 none/\Own w6 w0.heap.size (.slice x5 log.length y5) log):=⟨aa G5.out.1 g6,Own.grown G5.out.2 g6⟩
 clear G5 g6
 go_wp2_with fail
 refine hK.out _ _ (fun _=>G6.out.1) ?_
 clear hK K
 try simp only [pN]
 refine tS 8 (G6.out.1) rfl rfl (fun wk hk=>by obtain ⟨k0,k1,k2,k3⟩:=HC.out wk hk;go_simp;try rfl) ?_
 try simp only [pN]
 refine wO 9 rfl fun K hK=>?_
 go_wp2_with fail
 refine hK.out _ _ (fun _=>aa G6.out.1 (World.grownBy_alloc _ _ _)) ?_
 clear hK K
 try simp only [pN]
 have J:Idx [10,11]:=trivial
 iterate 2 (refine tK J (aa G6.out.1 (World.grownBy_alloc _ _ _)) rfl rfl (fun wk hk=>by obtain ⟨k0,k1,k2,k3⟩:=HC.out wk hk;go_simp;try rfl) ?_;replace J:=J.tl;try simp only [pN])
 refine wD ?_
 refine (‹∀(a:Act) (w:World),Code.wp Tryz.prog Code.ret _ a w->_› _ _ ?_)
 go_wp2_with fail
 go_ret2
 refine ⟨_,rfl,aa HT.out.2 (aa G6.out.1 (World.grownBy_alloc _ _ _)),fun k=>w.heap.size<=k/\k<w6.heap.size+1,⟨w6.heap.size,.slice x5 log.length y5,.slice none 0 0,.slice none 0 0,rfl,?_⟩,fun k hk=>hk.1⟩
 have hz4:=HT.out.2.size
 have hz5:=G6.out.1.size
 have g6:=World.grownBy_alloc w6 (.cells (dC (St.of c log []) (.slice x5 log.length y5) (.slice none 0 0) (.slice none 0 0)) 124) none
 have p0:Own w6 (w.heap.size+1) (.slice none 0 0) []:=Own.nil _ _
 have ap0:∀k,(Value.slice x5 log.length y5).ownBlock=some k->(Value.slice none 0 0).ownBlock≠some k:=fun k _ e=>by simp [Value.ownBlock] at e
 have p1:Own w6 (w.heap.size+1) (.slice none 0 0) []:=Own.nil _ _
 have ap1:∀k,(Value.slice x5 log.length y5).ownBlock=some k->(Value.slice none 0 0).ownBlock≠some k:=fun k _ e=>by simp [Value.ownBlock] at e
 refine ⟨heap_alloc_new _ _,Own.mono (Own.grown G6.out.2 g6) (Nat.zero_le _),Own.mono (Own.grown p0 g6) (Nat.zero_le _),Own.mono (Own.grown p1 g6) (Nat.zero_le _),ap0,ap1,⟨by omega,by omega⟩,fun k hk=>?_,fun k hk=>?_,fun k hk=>?_,fun k hk=>?_,⟨hc1,hc2,hl,Nat.le_refl _,by simp [St.of],by simp [St.of],by simp [St.of],by simp [St.of],by simp [St.of],by simp [St.of]⟩⟩
 ·have h1:=G6.out.2.lt k hk
  exact ⟨by omega,by omega⟩
 ·have h1:=p0.lt k hk
  exact ⟨by omega,by omega⟩
 ·have h1:=p1.lt k hk
  exact ⟨by omega,by omega⟩
 ·have:=hk.2
  simp
  omega
theorem uA (c:Nat)(w:World)(hc1:1<=c)(hc2:c<=1048576) :
  Calls Tryz.prog 21 #[.int .i64 c] w fun e w'=>∃p,e=.returned (.tuple #[p,.int .i64 0])/\DNew w w' p (St.of c [] []):=by
 go_enter Tryz.func21,Tryz.ntmps21
 go_wp2_with fail
 refine (vV c _ _ [] w (cG _) (fI _) hc1 hc2 (by simp)).mono ?_
 rintro e w1 ⟨p,rfl,hp⟩
 have HP:Hid _:=hp
 clear hp
 go_wp2_with fail
 go_ret2
 exact ⟨_,rfl,HP.out⟩
def St.rlast (S:St):Int:=if S.last=0 then 0 else if S.h1 then 1 else -1
def rC (S:St)(lv v0 v1:Value):Array Value:=#[.int .i64 S.cap,lv,.int .i64 S.sure,v0,v1,.bool S.h0,.bool S.h1,.int .i64 S.rlast,.int .i64 S.steps]
structure RKb (w:World)(F:Nat->Prop)(b:Nat)(lv v0 v1:Value)(S:St):Prop where
 blk:Blk w b 83 (rC S lv v0 v1)
 log:Own w 0 lv S.log
 p0:Own w 0 v0 S.b0
 p1:Own w 0 v1 S.b1
 a0:∀k,lv.ownBlock=some k->v0.ownBlock≠some k
 a1:∀k,lv.ownBlock=some k->v1.ownBlock≠some k
 inb:F b
 inl:In F lv
 in0:In F v0
 in1:In F v1
 lt:∀k,F k->k<w.heap.size
 ok:S.Ok
def RK (w:World)(F:Nat->Prop)(v:Value)(S:St):Prop:=∃b lv v0 v1,v=.pointer (some ⟨b,0,none⟩)/\RKb w F b lv v0 v1 S
theorem RKb.same {w w':World}{F:Nat->Prop}{b:Nat}{lv v0 v1:Value}{S:St}(h:RKb w F b lv v0 v1 S)(hz:w.heap.size<=w'.heap.size)(hs:∀k,F k->w'.heap[k]? = w.heap[k]?):RKb w' F b lv v0 v1 S :=
 ⟨h.blk.same (hs b h.inb),h.log.same fun k hk=>hs k (h.inl k hk),h.p0.same fun k hk=>hs k (h.in0 k hk),h.p1.same fun k hk=>hs k (h.in1 k hk),h.a0,h.a1,h.inb,h.inl,h.in0,h.in1,fun k hk=>Nat.lt_of_lt_of_le (h.lt k hk) hz,h.ok⟩
theorem RKb.grown {w w':World}{F:Nat->Prop}{b:Nat}{lv v0 v1:Value}{S:St}(h:RKb w F b lv v0 v1 S)(hg:w.grownBy w' none):RKb w' F b lv v0 v1 S:=h.same hg.size (cJ hg h.lt)
theorem RK.same {w w':World}{F:Nat->Prop}{v:Value}{S:St}(h:RK w F v S)(hz:w.heap.size<=w'.heap.size)(hs:∀k,F k->w'.heap[k]? = w.heap[k]?):RK w' F v S:=by
 obtain ⟨b,lv,v0,v1,rfl,h⟩:=h
 exact ⟨b,lv,v0,v1,rfl,h.same hz hs⟩
theorem RK.lt {w:World}{F:Nat->Prop}{v:Value}{S:St}(h:RK w F v S):∀k,F k->k<w.heap.size:=by
 obtain ⟨b,lv,v0,v1,rfl,h⟩:=h
 exact h.lt
theorem RK.ok {w:World}{F:Nat->Prop}{v:Value}{S:St}(h:RK w F v S):S.Ok:=by
 obtain ⟨b,lv,v0,v1,rfl,h⟩:=h
 exact h.ok
theorem RK.grown {w w':World}{F:Nat->Prop}{v:Value}{S:St}(h:RK w F v S)(hg:w.grownBy w' none):RK w' F v S:=h.same hg.size (cJ hg h.lt)
theorem RK.far {w w':World}{F G:Nat->Prop}{v:Value}{S:St}(h:RK w F v S)(hf:Fr w w' G)(hd:∀k,F k->¬G k):RK w' F v S:=h.same hf.size (hf.same h.lt hd)
theorem RKb.cells {w:World}{F:Nat->Prop}{b:Nat}{lv v0 v1:Value}{S:St}(h:RKb w F b lv v0 v1 S) :
  w.cell? ⟨b,0,none⟩=some (.int .i64 S.cap)/\w.cell? ⟨b,1,none⟩=some lv/\w.cell? ⟨b,2,none⟩=some (.int .i64 S.sure)/\w.cell? ⟨b,3,none⟩=some v0/\w.cell? ⟨b,4,none⟩=some v1 ∧
  w.cell? ⟨b,5,none⟩=some (.bool S.h0)/\w.cell? ⟨b,6,none⟩=some (.bool S.h1)/\w.cell? ⟨b,7,none⟩=some (.int .i64 S.rlast)/\w.cell? ⟨b,8,none⟩=some (.int .i64 S.steps) :=
 ⟨h.blk.cell 0,h.blk.cell 1,h.blk.cell 2,h.blk.cell 3,h.blk.cell 4,h.blk.cell 5,h.blk.cell 6,h.blk.cell 7,h.blk.cell 8⟩
def RAft (w:World)(F:Nat->Prop)(w':World)(v:Value)(S:St):Prop:=∃F',RK w' F' v S/\Aft w F w' F'
theorem RKb.set {w:World}{F:Nat->Prop}{b:Nat}{lv v0 v1:Value}{S S':St}(h:RKb w F b lv v0 v1 S)(i:Nat)(x:Value)(hc:(rC S lv v0 v1).setIfInBounds i x=rC S' lv v0 v1)(hl:S'.log=S.log)(h0:S'.b0=S.b0)(h1:S'.b1=S.b1)(ok:S'.Ok):RKb (w.setCell ⟨b,i,none⟩ x) F b lv v0 v1 S':=by
 have hg:=ae w b i x
 have q:∀{u L},Own w 0 u L->Own (w.setCell ⟨b,i,none⟩ x) 0 u L:=fun {u L} ho=>World.ownsRow.kept ho hg (.inr (ho.other h.blk (by decide)))
 exact ⟨by rw [<-hc];exact h.blk.store i x,by rw [hl];exact q h.log,by rw [h0];exact q h.p0,by rw [h1];exact q h.p1,h.a0,h.a1,h.inb,h.inl,h.in0,h.in1,fun k hk=>Nat.lt_of_lt_of_le (h.lt k hk) hg.size,ok⟩
theorem RKb.relog {w w':World}{F:Nat->Prop}{b:Nat}{lv v0 v1 v':Value}{S S':St}(h:RKb w F b lv v0 v1 S)(ho:Own w 0 v' S'.log)(hn:∀k,v'.ownBlock=some k->lv.ownBlock=some k\/¬F k)(hg:w.grownBy w' (some b))(hb:Blk w' b 83 (rC S' v' v0 v1))(h0:S'.b0=S.b0)(h1:S'.b1=S.b1)(ok:S'.Ok) :
  RKb w' (fun k=>F k\/v'.ownBlock=some k) b v' v0 v1 S':=by
 have q:∀{u L},Own w 0 u L->Own w' 0 u L:=fun {u L} ho=>World.ownsRow.kept ho hg (.inr (ho.other h.blk (by decide)))
 refine ⟨hb,q ho,by rw [h0];exact q h.p0,by rw [h1];exact q h.p1,fun k hk e=>?_,fun k hk e=>?_,.inl h.inb,fun k hk=>.inr hk,fun k hk=>.inl (h.in0 k hk),fun k hk=>.inl (h.in1 k hk),fun k hk=>?_,ok⟩
 ·rcases hn k hk with h2 | h2
  ·exact h.a0 k h2 e
  ·exact h2 (h.in0 k e)
 ·rcases hn k hk with h2 | h2
  ·exact h.a1 k h2 e
  ·exact h2 (h.in1 k e)
 ·rcases hk with h2 | h2
  ·exact Nat.lt_of_lt_of_le (h.lt k h2) hg.size
  ·exact Nat.lt_of_lt_of_le (ho.lt k h2).2 hg.size
theorem RKb.stepped {w:World}{F:Nat->Prop}{b:Nat}{lv v0 v1:Value}{S:St}(h:RKb w F b lv v0 v1 S):RKb (w.setCell ⟨b,8,none⟩ (.int .i64 ((S.steps+1:Nat):Int))) F b lv v0 v1 S.step :=
 h.set 8 _ rfl rfl rfl rfl h.ok.step
theorem RKb.held {w w1:World}{F:Nat->Prop}{b:Nat}{lv v0 v1 v':Value}{S S':St}{n:Nat}(h:RKb w F b lv v0 v1 S)(g:w.grownBy w1 none)(o:Own w1 w.heap.size v' S'.log)(hS:S'={ S with log:=S'.log,sure:=n })(ok:S'.Ok) :
  RAft w F ((w1.setCell ⟨b,1,none⟩ v').setCell ⟨b,2,none⟩ (.int .i64 (n:Int))) (.pointer (some ⟨b,0,none⟩)) S':=by
 have h1:=h.grown g
 have g2:w1.grownBy ((w1.setCell ⟨b,1,none⟩ v').setCell ⟨b,2,none⟩ (.int .i64 (n:Int))) (some b):=aa (ae _ _ _ _) (ae _ _ _ _)
 have hb:Blk ((w1.setCell ⟨b,1,none⟩ v').setCell ⟨b,2,none⟩ (.int .i64 (n:Int))) b 83 (rC S' v' v0 v1):=by
  rw [hS]
  exact (h1.blk.store 1 _).store 2 _
 have hn:∀k,v'.ownBlock=some k->¬F k:=fun k hk hF=>by
  have:=(o.lt k hk).1
  have:=h.lt k hF
  omega
 refine ⟨fun k=>F k\/v'.ownBlock=some k,⟨b,v',v0,v1,rfl,h1.relog (o.mono (Nat.zero_le _)) (fun k hk=>.inr (hn k hk)) g2 hb (by rw [hS]) (by rw [hS]) ok⟩,⟨Fr.trans (Fr.of (F:=F) g (by simp)) (Fr.of (F:=F) g2 (fun k hk=>by simp at hk;subst hk;exact h.inb)) (fun k hk=>.inl hk),fun k hk=>?_⟩⟩
 rcases hk with hk | hk
 ·exact .inl hk
 ·exact .inr (o.lt k hk).1
theorem RAft.after {w w1 w':World}{F:Nat->Prop}{v:Value}{S:St}(h:RAft w1 F w' v S)(ha:Aft w F w1 F):RAft w F w' v S:=by
 obtain ⟨F',h1,h2⟩:=h
 exact ⟨F',h1,ha.trans h2⟩
def RNew (w w':World)(v:Value)(S:St):Prop:=w.grownBy w' none/\∃F,RK w' F v S/\∀k,F k->w.heap.size<=k
theorem RNew.of {w w0 w':World}{v:Value}{S:St}(h:RNew w0 w' v S)(hg:w.grownBy w0 none):RNew w w' v S:=by
 obtain ⟨h1,F,h2,h3⟩:=h
 exact ⟨aa hg h1,F,h2,fun k hk=>Nat.le_trans hg.size (h3 k hk)⟩
theorem pT (u:Value)(w:World):Calls Tryz.prog 32 #[.pointer none,u] w fun e w'=>e=.returned (.int .i64 1)/\w'=w:=by
 go_enter Tryz.func32,Tryz.ntmps32
 go_wp2_with fail
 go_ret
 exact ⟨rfl,rfl⟩
theorem pU (w:World):Calls Tryz.prog 28 #[.pointer none] w fun e w'=>e=.returned (.int .i64 1)/\w'=w:=by
 go_enter Tryz.func28,Tryz.ntmps28
 go_wp2_with fail
 go_ret
 exact ⟨rfl,rfl⟩
theorem pV (n:Int)(w:World):Calls Tryz.prog 30 #[.pointer none,.int .i64 n] w fun e w'=>e=.returned (.pointer none)/\w'=w:=by
 go_enter Tryz.func30,Tryz.ntmps30
 go_wp2_with fail
 go_ret
 exact ⟨rfl,rfl⟩
theorem vW (F:Nat->Prop)(v:Value)(S:St)(w:World)(h:RK w F v S)(hm:S.steps<9223372036854775807) :
  Calls Tryz.prog 28 #[v] w fun e w'=>e=.returned (.int .i64 0)/\RAft w F w' v S.sync:=by
 obtain ⟨b,lv,v0,v1,rfl,h⟩:=h
 obtain ⟨c0,c1,c2,c3,c4,c5,c6,c7,c8⟩:=h.cells
 have hf:=h.blk.free 8
 have h1:=h.stepped
 obtain ⟨ao,cap,hsv⟩:=h.log.seg.shape
 subst hsv
 have HS:Hid (RKb (w.setCell ⟨b,8,none⟩ (.int .i64 ((S.steps+1:Nat):Int))) F b (.slice ao S.log.length cap) v0 v1 S.step/\Aft w F (w.setCell ⟨b,8,none⟩ (.int .i64 ((S.steps+1:Nat):Int))) F):=⟨h1,dy h.inb _ _⟩
 have HO:Hid S.Ok:=h.ok
 have hl:=h.ok.log
 have hsl:=h.ok.sure
 have hcp:S.log.length<=cap/\cap<=9223372036854775807:=by
  obtain ⟨ao',cap',hv,q1,q2,_⟩:=h.log.seg
  simp at hv;unfold maxLen at q2;omega
 obtain ⟨hcp1,hcp2⟩:=hcp
 rw [show ((S.steps+1:Nat):Int)=(S.steps:Int)+1 by omega] at HS
 have k1:=HS.out.1.cells.2.1
 have k2:=HS.out.1.cells.2.2.1
 have f2:=HS.out.1.blk.free 2
 clear h h1 c0 c1 c2 c3 c4 c5 c6 c7
 go_enter Tryz.func28,Tryz.ntmps28
 go_wp2_with fail
 go_ret
 refine ⟨rfl,F,⟨b,_,v0,v1,rfl,HS.out.1.set (S':=S.sync) 2 _ rfl rfl rfl rfl ?_⟩,HS.out.2.trans (dy HS.out.1.inb _ _)⟩
 have o:=HS.out.1.ok
 exact ⟨o.cap1,o.cap2,o.log,Nat.le_refl _,o.l0,o.l1,o.last,o.first,o.e0,o.e1⟩
attribute [local go_sem ↓] jv jw gX
theorem rO (F:Nat->Prop)(v u:Value)(S:St)(M:List UInt8)(w:World)(h:RK w F v S)(hm:S.steps<9223372036854775807)(hu:Seg w u M)(hd:M≠[]->∀k,u.ownBlock=some k->¬F k) :
  Calls Tryz.prog 32 #[v,u] w fun e w'=>e=.returned (.int .i64 (S.writeCode M))/\RAft w F w' v (S.write M):=by
 have hul:=hu.len
 obtain ⟨au,cu,huv⟩:=hu.shape
 subst huv
 obtain ⟨b,lv,v0,v1,rfl,h⟩:=h
 obtain ⟨c0,c1,c2,c3,c4,c5,c6,c7,c8⟩:=h.cells
 have hf:=h.blk.free 8
 have h1:=h.stepped
 obtain ⟨ao,cap,hsv⟩:=h.log.seg.shape
 subst hsv
 have HS:Hid (RKb (w.setCell ⟨b,8,none⟩ (.int .i64 ((S.steps+1:Nat):Int))) F b (.slice ao S.log.length cap) v0 v1 S.step/\Aft w F (w.setCell ⟨b,8,none⟩ (.int .i64 ((S.steps+1:Nat):Int))) F/\Seg (w.setCell ⟨b,8,none⟩ (.int .i64 ((S.steps+1:Nat):Int))) (.slice au M.length cu) M):=⟨h1,dy h.inb _ _,hu.far (dy (F:=F) h.inb _ _).fr hd⟩
 have HO:Hid S.Ok:=h.ok
 have hl:=h.ok.log
 have hsl:=h.ok.sure
 have hcp:S.log.length<=cap/\cap<=9223372036854775807:=by
  obtain ⟨ao',cap',hv,q1,q2,_⟩:=h.log.seg
  simp at hv;unfold maxLen at q2;omega
 obtain ⟨hcp1,hcp2⟩:=hcp
 rw [show ((S.steps+1:Nat):Int)=(S.steps:Int)+1 by omega] at HS
 have hcap:=h.ok.cap2
 have hc1:=h.ok.cap1
 have k0:(w.setCell ⟨b,8,none⟩ (.int .i64 ((S.steps:Int)+1))).cell? ⟨b,0,none⟩=some (.int .i64 S.cap):=HS.out.1.cells.1
 have k1:=HS.out.1.cells.2.1
 clear h h1 c0 c1 c2 c3 c4 c5 c6 c7 hu
 cases hfull:S.full M with
 | true =>
  have h1:S.cap-S.log.length<M.length:=by simpa [St.full] using hfull
  have hb0:decide (0<M.length)=true:=decide_eq_true (by omega)
  have hb1:0<M.length:=by omega
  have hb:(S.cap:Int)-(S.log.length:Int)<(M.length:Int):=by omega
  have e1:Hid (S.write M=S.step):=by unfold Hid St.write;rw [hfull];rfl
  have e2:Hid (S.writeCode M=7):=by unfold Hid St.writeCode;rw [hfull];rfl
  clear hfull
  go_enter Tryz.func32,Tryz.ntmps32
  go_wp2_with fail
  generalize w.setCell ⟨b,8,none⟩ (.int .i64 ((S.steps:Int)+1))=w1 at HS k0 k1 ⊢
  go_quiet (fail)
  go_wp2_with fail
  go_ret
  rw [e1.out,e2.out]
  exact ⟨rfl,F,⟨b,_,v0,v1,rfl,HS.out.1.grown (ax _ _ none)⟩,HS.out.2.1.trans (aP (ax _ _ none))⟩
 | false =>
  have h1:¬S.cap-S.log.length<M.length:=by simpa [St.full] using hfull
  have e1:Hid (S.write M={ S.step with log:=S.log ++ M }):=by unfold Hid St.write;rw [hfull];rfl
  have e2:Hid (S.writeCode M=0):=by unfold Hid St.writeCode;rw [hfull];rfl
  have HOK:Hid (S.write M).Ok:=St.write_ok HO.out
  rw [e1.out] at HOK
  clear hfull
  by_cases hz:M.length=0
  ·have hb1:¬0<M.length:=by omega
   have hb0:decide (0<M.length)=false:=decide_eq_false (by omega)
   clear hz
   go_enter Tryz.func32,Tryz.ntmps32
   go_wp2_with fail
   generalize w.setCell ⟨b,8,none⟩ (.int .i64 ((S.steps:Int)+1))=w1 at HS k0 k1 ⊢
   go_quiet (fail)
   generalize hw2:w1.drewN _=w2
   have HS2:Hid (RKb w2 F b (.slice ao S.log.length cap) v0 v1 S.step/\Aft w F w2 F/\Seg w2 (.slice au M.length cu) M):=by
    rw [<-hw2]
    exact ⟨HS.out.1.grown (ax _ _ none),HS.out.2.1.trans (aP (ax _ _ none)),HS.out.2.2.grown (ax _ _ none)⟩
   clear hw2 HS k0 k1
   have k1:=HS2.out.1.cells.2.1
   go_wp2_with (at_builtin;refine bH _ rfl _ _ rfl 0 _ S.log _ M rfl rfl HS2.out.1.log HS2.out.2.2 ?c0 ?c1 ?_)
   case c0=>have:=HO.out.log;have:=HO.out.cap2;omega
   case c1=>omega
   intro v3 w3 o3 g3 l3
   obtain ⟨a3,cp3,hv3⟩:=o3.seg.shape
   subst hv3
   have hb3:Blk w3 b 83 (rC S.step (.slice ao S.log.length cap) v0 v1):=HS2.out.1.blk.grown g3 (HS2.out.1.log.other HS2.out.1.blk (by decide))
   have q1:=hb3.cell 1
   have f1:=hb3.free 1
   simp [rC] at q1
   have HF:Hid (RAft w F (w3.setCell ⟨b,1,none⟩ (.slice a3 (S.log ++ M).length cp3)) (.pointer (some ⟨b,0,none⟩)) { S.step with log:=S.log ++ M }):=by
    have hk:=HS2.out.1
    have g4:=ae w3 b 1 (.slice a3 (S.log ++ M).length cp3)
    have q:∀{u L},Own w2 0 u L->(∀k,(Value.slice ao S.log.length cap).ownBlock=some k->u.ownBlock≠some k)->Own w3 0 u L:=fun {u L} ho ha=>by
     refine World.ownsRow.kept ho g3 ?_
     cases hx:u.ownBlock with
     | none=>exact .inl rfl
     | some k=>exact .inr (fun e=>ha k e.symm hx)
    have q':∀{u L},Own w3 0 u L->Own (w3.setCell ⟨b,1,none⟩ (.slice a3 (S.log ++ M).length cp3)) 0 u L:=fun {u L} ho=>World.ownsRow.kept ho g4 (.inr (ho.other hb3 (by decide)))
    have hlt:∀k,(Value.slice a3 (S.log ++ M).length cp3).ownBlock=some k->F k\/w2.heap.size<=k:=fun k hk2=>by
     rcases l3 k hk2 with h5 | h5
     ·exact .inl (hk.inl k h5)
     ·exact .inr h5
    have hap:∀{u:Value},In F u->(∀k,(Value.slice ao S.log.length cap).ownBlock=some k->u.ownBlock≠some k)->∀k,(Value.slice a3 (S.log ++ M).length cp3).ownBlock=some k->u.ownBlock≠some k:=fun {u} hin ha k hk2 e=>by
     rcases l3 k hk2 with h5 | h5
     ·exact ha k h5 e
     ·have:=hk.lt k (hin k e);omega
    refine ⟨fun k=>F k\/(Value.slice a3 (S.log ++ M).length cp3).ownBlock=some k,⟨b,_,v0,v1,rfl,⟨hb3.store 1 _,q' o3,q' (q hk.p0 hk.a0),q' (q hk.p1 hk.a1),hap hk.in0 hk.a0,hap hk.in1 hk.a1,.inl hk.inb,fun k h=>.inr h,fun k h=>.inl (hk.in0 k h),fun k h=>.inl (hk.in1 k h),?_,HOK.out⟩⟩,?_⟩
    ·intro k h
     have hs3:=g3.size
     have hs4:=g4.size
     rcases h with h | h
     ·have:=hk.lt k h;omega
     ·have:=(o3.lt k h).2;omega
    ·refine HS2.out.2.1.trans ⟨Fr.trans (Fr.of g3 (fun k h=>hk.inl k h)) (Fr.of (F:=F) g4 (fun k h=>by simp at h;subst h;exact hk.inb)) (fun k h=>.inl h),fun k h=>?_⟩
     rcases h with h | h
     ·exact .inl h
     ·exact hlt k h
   clear o3 g3 l3 hb3
   rw [List.length_append] at HF
   go_wp2_with fail
   go_ret
   rw [e1.out,e2.out]
   exact ⟨rfl,HF.out⟩
  ·have hb1:0<M.length:=by omega
   have hb0:decide (0<M.length)=true:=decide_eq_true (by omega)
   have hb:¬(S.cap:Int)-(S.log.length:Int)<(M.length:Int):=by omega
   go_enter Tryz.func32,Tryz.ntmps32
   go_wp2_with fail
   generalize w.setCell ⟨b,8,none⟩ (.int .i64 ((S.steps:Int)+1))=w1 at HS k0 k1 ⊢
   go_quiet (fail)
   generalize hw2:w1.drewN _=w2
   have HS2:Hid (RKb w2 F b (.slice ao S.log.length cap) v0 v1 S.step/\Aft w F w2 F/\Seg w2 (.slice au M.length cu) M):=by
    rw [<-hw2]
    exact ⟨HS.out.1.grown (ax _ _ none),HS.out.2.1.trans (aP (ax _ _ none)),HS.out.2.2.grown (ax _ _ none)⟩
   clear hw2 HS k0 k1
   have k1:=HS2.out.1.cells.2.1
   go_wp2_with (at_builtin;refine bH _ rfl _ _ rfl 0 _ S.log _ M rfl rfl HS2.out.1.log HS2.out.2.2 ?c0 ?c1 ?_)
   case c0=>have:=HO.out.log;have:=HO.out.cap2;omega
   case c1=>omega
   intro v3 w3 o3 g3 l3
   obtain ⟨a3,cp3,hv3⟩:=o3.seg.shape
   subst hv3
   have hb3:Blk w3 b 83 (rC S.step (.slice ao S.log.length cap) v0 v1):=HS2.out.1.blk.grown g3 (HS2.out.1.log.other HS2.out.1.blk (by decide))
   have q1:=hb3.cell 1
   have f1:=hb3.free 1
   simp [rC] at q1
   have HF:Hid (RAft w F (w3.setCell ⟨b,1,none⟩ (.slice a3 (S.log ++ M).length cp3)) (.pointer (some ⟨b,0,none⟩)) { S.step with log:=S.log ++ M }):=by
    have hk:=HS2.out.1
    have g4:=ae w3 b 1 (.slice a3 (S.log ++ M).length cp3)
    have q:∀{u L},Own w2 0 u L->(∀k,(Value.slice ao S.log.length cap).ownBlock=some k->u.ownBlock≠some k)->Own w3 0 u L:=fun {u L} ho ha=>by
     refine World.ownsRow.kept ho g3 ?_
     cases hx:u.ownBlock with
     | none=>exact .inl rfl
     | some k=>exact .inr (fun e=>ha k e.symm hx)
    have q':∀{u L},Own w3 0 u L->Own (w3.setCell ⟨b,1,none⟩ (.slice a3 (S.log ++ M).length cp3)) 0 u L:=fun {u L} ho=>World.ownsRow.kept ho g4 (.inr (ho.other hb3 (by decide)))
    have hlt:∀k,(Value.slice a3 (S.log ++ M).length cp3).ownBlock=some k->F k\/w2.heap.size<=k:=fun k hk2=>by
     rcases l3 k hk2 with h5 | h5
     ·exact .inl (hk.inl k h5)
     ·exact .inr h5
    have hap:∀{u:Value},In F u->(∀k,(Value.slice ao S.log.length cap).ownBlock=some k->u.ownBlock≠some k)->∀k,(Value.slice a3 (S.log ++ M).length cp3).ownBlock=some k->u.ownBlock≠some k:=fun {u} hin ha k hk2 e=>by
     rcases l3 k hk2 with h5 | h5
     ·exact ha k h5 e
     ·have:=hk.lt k (hin k e);omega
    refine ⟨fun k=>F k\/(Value.slice a3 (S.log ++ M).length cp3).ownBlock=some k,⟨b,_,v0,v1,rfl,⟨hb3.store 1 _,q' o3,q' (q hk.p0 hk.a0),q' (q hk.p1 hk.a1),hap hk.in0 hk.a0,hap hk.in1 hk.a1,.inl hk.inb,fun k h=>.inr h,fun k h=>.inl (hk.in0 k h),fun k h=>.inl (hk.in1 k h),?_,HOK.out⟩⟩,?_⟩
    ·intro k h
     have hs3:=g3.size
     have hs4:=g4.size
     rcases h with h | h
     ·have:=hk.lt k h;omega
     ·have:=(o3.lt k h).2;omega
    ·refine HS2.out.2.1.trans ⟨Fr.trans (Fr.of g3 (fun k h=>hk.inl k h)) (Fr.of (F:=F) g4 (fun k h=>by simp at h;subst h;exact hk.inb)) (fun k h=>.inl h),fun k h=>?_⟩
     rcases h with h | h
     ·exact .inl h
     ·exact hlt k h
   clear o3 g3 l3 hb3
   rw [List.length_append] at HF
   go_wp2_with fail
   go_ret
   rw [e1.out,e2.out]
   exact ⟨rfl,HF.out⟩
theorem rP (F:Nat->Prop)(v:Value)(S:St)(n:Int)(w:World)(h:RK w F v S)(hm:S.steps<9223372036854775807) :
  Calls Tryz.prog 61 #[v,.int .i64 n] w fun e w'=>e=.returned (.int .i64 (S.dropCode n))/\RAft w F w' v (S.drop n):=by
 obtain ⟨b,lv,v0,v1,rfl,h⟩:=h
 obtain ⟨c0,c1,c2,c3,c4,c5,c6,c7,c8⟩:=h.cells
 have hf:=h.blk.free 8
 have h1:=h.stepped
 obtain ⟨ao,cap,hsv⟩:=h.log.seg.shape
 subst hsv
 have HS:Hid (RKb (w.setCell ⟨b,8,none⟩ (.int .i64 ((S.steps+1:Nat):Int))) F b (.slice ao S.log.length cap) v0 v1 S.step/\Aft w F (w.setCell ⟨b,8,none⟩ (.int .i64 ((S.steps+1:Nat):Int))) F):=⟨h1,dy h.inb _ _⟩
 have HO:Hid S.Ok:=h.ok
 have hl:=h.ok.log
 have hsl:=h.ok.sure
 have hcp:S.log.length<=cap/\cap<=9223372036854775807:=by
  obtain ⟨ao',cap',hv,q1,q2,_⟩:=h.log.seg
  simp at hv;unfold maxLen at q2;omega
 obtain ⟨hcp1,hcp2⟩:=hcp
 rw [show ((S.steps+1:Nat):Int)=(S.steps:Int)+1 by omega] at HS
 have k1:=HS.out.1.cells.2.1
 have k2:(w.setCell ⟨b,8,none⟩ (.int .i64 ((S.steps:Int)+1))).cell? ⟨b,2,none⟩=some (.int .i64 S.sure):=HS.out.1.cells.2.2.1
 clear h h1 c0 c1 c2 c3 c4 c5 c6 c7
 cases hbad:S.dropBad n with
 | true =>
  have q:n<0\/(S.sure:Int)<n:=by simpa [St.dropBad] using hbad
  have e1:Hid (S.drop n=S.step):=by unfold Hid St.drop;rw [hbad];rfl
  have e2:Hid (S.dropCode n=2):=by unfold Hid St.dropCode;rw [hbad];rfl
  clear hbad
  by_cases hneg:n<0
  ·clear q
   go_enter Tryz.func61,Tryz.ntmps61
   go_wp2_with fail
   go_ret
   rw [e1.out,e2.out]
   exact ⟨rfl,F,⟨b,_,v0,v1,rfl,HS.out.1⟩,HS.out.2⟩
  ·have q2:(S.sure:Int)<n:=by omega
   clear q
   go_enter Tryz.func61,Tryz.ntmps61
   go_wp2_with fail
   go_ret
   rw [e1.out,e2.out]
   exact ⟨rfl,F,⟨b,_,v0,v1,rfl,HS.out.1⟩,HS.out.2⟩
 | false =>
  have q:¬(n<0\/(S.sure:Int)<n):=by simpa [St.dropBad] using hbad
  obtain ⟨m,rfl⟩:∃m:Nat,n=m:=⟨n.toNat,by omega⟩
  have hm1:m<=S.sure:=by omega
  have hm2:m<=S.log.length:=by omega
  have HOK:Hid (S.drop m).Ok:=St.drop_ok HO.out
  have e1:Hid (S.drop (m:Int)={ S.step with log:=S.log.drop m,sure:=S.sure-m }):=by unfold Hid St.drop;rw [hbad];rfl
  have e2:Hid (S.dropCode (m:Int)=0):=by unfold Hid St.dropCode;rw [hbad];rfl
  rw [e1.out] at HOK
  clear hbad q
  have i1:(m:Int)<=(S.log.length:Int):=by omega
  have i2:(m:Int)<=(cap:Int):=by omega
  have i3:(m:Int)<=(S.sure:Int):=by omega
  have hsub:Hid ((S.sure:Int)-(m:Int)=((S.sure-m:Nat):Int)):=by unfold Hid;omega
  go_enter Tryz.func61,Tryz.ntmps61
  go_wp2_with fail
  all_goals
   generalize w.setCell ⟨b,8,none⟩ (.int .i64 ((S.steps:Int)+1))=w1 at HS k1 k2 ⊢
   refine (jt _ (S.log.drop m) _ (by first | exact bk m hm2 ‹cap=m› HS.out.1.log.seg | exact bC m hm2 HS.out.1.log.seg) (by simp;omega)).mono ?_
   rintro e w3 ⟨u3,rfl,o,g⟩
   obtain ⟨a3,c3,e3⟩:=o.seg.shape
   subst e3
   have hb:=HS.out.1.blk.grown g (by simp)
   have q1:=hb.cell 1
   have q2:w3.cell? ⟨b,2,none⟩=some (.int .i64 S.sure):=hb.cell 2
   have f1:=hb.free 1
   have f2:=hb.free 2
   simp [rC] at q1
   have HF:Hid (RAft w F ((w3.setCell ⟨b,1,none⟩ (.slice a3 (S.log.drop m).length c3)).setCell ⟨b,2,none⟩ (.int .i64 ((S.sure-m:Nat):Int))) (.pointer (some ⟨b,0,none⟩)) { S.step with log:=S.log.drop m,sure:=S.sure-m }):=RAft.after (RKb.held (S':={ S.step with log:=S.log.drop m,sure:=S.sure-m }) HS.out.1 g o rfl HOK.out) HS.out.2
   rw [List.length_drop,<-hsub.out] at HF
   clear o g hb
   go_wp2_with fail
   go_ret
   rw [e1.out,e2.out]
   exact ⟨rfl,HF.out⟩
theorem vX (F:Nat->Prop)(v:Value)(S:St)(w:World)(h:RK w F v S):Calls Tryz.prog 57 #[v] w fun e w'=>e=.returned (.int .i64 ((S.cap-S.log.length:Nat):Int))/\w.grownBy w' none/\w'.heap=w.heap:=by
 obtain ⟨b,lv,v0,v1,rfl,h⟩:=h
 obtain ⟨c0,c1,c2,c3,c4,c5,c6,c7,c8⟩:=h.cells
 obtain ⟨ao,cap,hsv⟩:=h.log.seg.shape
 subst hsv
 have h1:=h.ok.cap1
 have h2:=h.ok.cap2
 have h3:=h.ok.log
 clear h c2 c3 c4 c5 c6 c7 c8
 obtain ⟨n,hn⟩:∃n,S.log.length=n:=⟨_,rfl⟩
 obtain ⟨c,hc⟩:∃c,S.cap=c:=⟨_,rfl⟩
 rw [hn] at c1 h3 ⊢
 rw [hc] at c0 h1 h2 ⊢
 clear hn hc
 go_enter Tryz.func57,Tryz.ntmps57
 go_wp2_with fail
 go_quiet (fail)
 go_wp2_with fail
 all_goals
  go_ret
  exact ⟨by simp <;> omega,ax _ _ _,rfl⟩
theorem vY (F:Nat->Prop)(v:Value)(S:St)(w:World)(h:RK w F v S) :
  Calls Tryz.prog 65 #[v] w fun e w'=>∃p,e=.returned p/\RNew w w' p S:=by
 obtain ⟨b,lv,v0,v1,rfl,h⟩:=h
 obtain ⟨c0,c1,c2,c3,c4,c5,c6,c7,c8⟩:=h.cells
 obtain ⟨al,cl,el⟩:=h.log.seg.shape
 obtain ⟨a0,cp0,e0⟩:=h.p0.seg.shape
 obtain ⟨a1,cp1,e1⟩:=h.p1.seg.shape
 subst el e0 e1
 have HS:Hid (RKb w F b (.slice al S.log.length cl) (.slice a0 S.b0.length cp0) (.slice a1 S.b1.length cp1) S):=h
 have HT:Hid (Blk (w.alloc (.cells (rC S (.slice al S.log.length cl) (.slice a0 S.b0.length cp0) (.slice a1 S.b1.length cp1)) 83)) w.heap.size 83 (rC S (.slice al S.log.length cl) (.slice a0 S.b0.length cp0) (.slice a1 S.b1.length cp1))/\w.grownBy (w.alloc (.cells (rC S (.slice al S.log.length cl) (.slice a0 S.b0.length cp0) (.slice a1 S.b1.length cp1)) 83)) none):=⟨heap_alloc_new _ _,World.grownBy_alloc _ _ _⟩
 have k1:∀o,(w.alloc o).cell? ⟨b,1,none⟩=some (.slice al S.log.length cl):=fun o=>(World.grownBy_alloc w o none).cell c1 (by simp)
 clear h
 unfold rC at HT
 go_enter Tryz.func65,Tryz.ntmps65
 go_wp2_with fail
 generalize w.alloc (.cells #[.int .i64 S.cap,.slice al S.log.length cl,.int .i64 S.sure,.slice a0 S.b0.length cp0,.slice a1 S.b1.length cp1,.bool S.h0,.bool S.h1,.int .i64 S.rlast,.int .i64 S.steps] 83)=w0 at HT ⊢
 refine (jt _ S.log _ (HS.out.log.seg.grown HT.out.2) (by have:=HS.out.ok.log;omega)).mono ?_
 rintro e w1 ⟨u,rfl,o,g⟩
 obtain ⟨xl,yl,e⟩:=o.seg.shape
 subst e
 have hb:=HT.out.1.grown g (by simp)
 have q1:=hb.cell 1
 have f1:=hb.free 1
 simp at q1
 have HN:Hid (Blk (w1.setCell ⟨w.heap.size,1,none⟩ (.slice xl S.log.length yl)) w.heap.size 83 #[.int .i64 S.cap,.slice xl S.log.length yl,.int .i64 S.sure,.slice a0 S.b0.length cp0,.slice a1 S.b1.length cp1,.bool S.h0,.bool S.h1,.int .i64 S.rlast,.int .i64 S.steps]/\w.grownBy (w1.setCell ⟨w.heap.size,1,none⟩ (.slice xl S.log.length yl)) none/\Own (w1.setCell ⟨w.heap.size,1,none⟩ (.slice xl S.log.length yl)) (w.heap.size+1) (.slice xl S.log.length yl) S.log):=by
  have hz:=HT.out.1.lt
  exact ⟨hb.store 1 _,ah (aa HT.out.2 g) (ae _ _ _ _) (by intro x hx;simp at hx;omega),Own.mono (World.ownsRow.kept o (ae _ _ _ _) (.inr (o.other hb (by decide)))) (by omega)⟩
 clear o g hb HT c1 c2 c5 c6 c7 c8 c0 k1
 go_wp2_with fail
 generalize w1.setCell ⟨w.heap.size,1,none⟩ (.slice xl S.log.length yl)=w2 at HN ⊢
 clear q1 f1
 have HC:Hid (∀x:World,w2.grownBy x none->x.cell? ⟨b,3,none⟩=some (.slice a0 S.b0.length cp0)/\x.cell? ⟨b,4,none⟩=some (.slice a1 S.b1.length cp1)):=fun x hx=>⟨(aa HN.out.2.1 hx).cell c3 (by simp),(aa HN.out.2.1 hx).cell c4 (by simp)⟩
 clear c3 c4
 refine wp_region_noPanic ?_
 refine am 14 (fun x=>w2.grownBy x none) (by kernel_rfl) ?_
 have J:Idx [0,1,2,3,4,6,7,8,9,10]:=trivial
 iterate 10 (refine tK J (af _ _) rfl rfl (fun wk hk=>by obtain ⟨k0,k1⟩:=HC.out wk hk;go_simp;try rfl) ?_;replace J:=J.tl;try simp only [pN])
 refine wO 5 rfl fun K hK=>?_
 go_simp
 refine (jt _ S.b0 _ (HS.out.p0.seg.grown (aa HN.out.2.1 (af _ none))) (by have:=HS.out.ok.l0;omega)).mono ?_
 rintro e w3 ⟨u3,rfl,o3,g3⟩
 obtain ⟨x0,y0,e⟩:=o3.seg.shape
 subst e
 have G3:Hid (w2.grownBy w3 none/\Own w3 w2.heap.size (.slice x0 S.b0.length y0) S.b0):=⟨aa (af _ none) g3,o3⟩
 clear o3 g3
 go_wp2_with fail
 refine hK.out _ _ (fun _=>G3.out.1) ?_
 clear hK K
 try simp only [pN]
 refine wO 11 rfl fun K hK=>?_
 go_simp
 refine (jt _ S.b1 _ (HS.out.p1.seg.grown (aa HN.out.2.1 G3.out.1)) (by have:=HS.out.ok.l1;omega)).mono ?_
 rintro e w4 ⟨u4,rfl,o4,g4⟩
 obtain ⟨x1,y1,e⟩:=o4.seg.shape
 subst e
 have G4:Hid (w2.grownBy w4 none/\Own w4 w2.heap.size (.slice x0 S.b0.length y0) S.b0/\Own w4 w2.heap.size (.slice x1 S.b1.length y1) S.b1):=⟨aa G3.out.1 g4,Own.grown G3.out.2 g4,o4.mono G3.out.1.size⟩
 clear o4 g4 G3
 go_wp2_with fail
 refine hK.out _ _ (fun _=>G4.out.1) ?_
 clear hK K
 try simp only [pN]
 have J:Idx [12,13]:=trivial
 iterate 2 (refine tK J (G4.out.1) rfl rfl (fun wk hk=>by obtain ⟨k0,k1⟩:=HC.out wk hk;go_simp;try rfl) ?_;replace J:=J.tl;try simp only [pN])
 refine wO 14 rfl fun K hK=>?_
 have hb:=HN.out.1.grown G4.out.1 (by simp)
 have q3:=hb.cell 3
 have q4:=hb.cell 4
 have f3:=hb.free 3
 have f4:=hb.free 4
 simp at q3 q4
 have HF:Hid (RNew w ((w4.setCell ⟨w.heap.size,3,none⟩ (.slice x0 S.b0.length y0)).setCell ⟨w.heap.size,4,none⟩ (.slice x1 S.b1.length y1)) (.pointer (some ⟨w.heap.size,0,none⟩)) S):=by
  have gg:w4.grownBy ((w4.setCell ⟨w.heap.size,3,none⟩ (.slice x0 S.b0.length y0)).setCell ⟨w.heap.size,4,none⟩ (.slice x1 S.b1.length y1)) (some w.heap.size):=aa (ae _ _ _ _) (ae _ _ _ _)
  have q:∀{B t L},Own w4 B t L->Own ((w4.setCell ⟨w.heap.size,3,none⟩ (.slice x0 S.b0.length y0)).setCell ⟨w.heap.size,4,none⟩ (.slice x1 S.b1.length y1)) B t L:=fun {B t L} ho=>World.ownsRow.kept ho gg (.inr (ho.other hb (by decide)))
  have hz2:=HN.out.2.1.size
  have hz4:=G4.out.1.size
  have hzb:=HN.out.1.lt
  have ol:=Own.grown HN.out.2.2 G4.out.1
  have ok:=HS.out.ok
  refine ⟨ah (aa HN.out.2.1 G4.out.1) gg (by intro x hx;simp at hx;omega),fun k=>w.heap.size<=k/\k<w4.heap.size,⟨w.heap.size,.slice xl S.log.length yl,.slice x0 S.b0.length y0,.slice x1 S.b1.length y1,rfl,⟨(hb.store 3 _).store 4 _,Own.mono (q ol) (Nat.zero_le _),Own.mono (q G4.out.2.1) (Nat.zero_le _),Own.mono (q G4.out.2.2) (Nat.zero_le _),fun k hk e=>?_,fun k hk e=>?_,⟨Nat.le_refl _,by omega⟩,fun k hk=>?_,fun k hk=>?_,fun k hk=>?_,fun k hk=>Nat.lt_of_lt_of_le hk.2 gg.size,ok⟩⟩,fun k hk=>hk.1⟩
  ·have h1:=(Own.lt HN.out.2.2 k hk).2
   have h2:=(G4.out.2.1.lt k e).1
   omega
  ·have h1:=(Own.lt HN.out.2.2 k hk).2
   have h2:=(G4.out.2.2.lt k e).1
   omega
  ·have h1:=ol.lt k hk
   exact ⟨by omega,by omega⟩
  ·have h1:=G4.out.2.1.lt k hk
   exact ⟨by omega,by omega⟩
  ·have h1:=G4.out.2.2.lt k hk
   exact ⟨by omega,by omega⟩
 go_wp2_with fail
 refine hK.out _ _ (fun h=>absurd rfl h) ?_
 clear hK K hb
 try simp only [pN]
 refine wD ?_
 refine (‹∀(a:Act) (w:World),Code.wp Tryz.prog _ _ a w->_› _ _ ?_)
 go_wp2_with fail
 go_ret
 exact ⟨_,rfl,HF.out⟩
theorem vZ (F:Nat->Prop)(v:Value)(S:St)(keep:Int)(w:World)(h:RK w F v S)(hk1:-9223372036854775808<=keep)(hk2:keep<=9223372036854775807) :
  Calls Tryz.prog 30 #[v,.int .i64 keep] w fun e w'=>∃p,e=.returned p/\RNew w w' p (S.stop keep):=by
 obtain ⟨b,lv,v0,v1,rfl,h⟩:=h
 obtain ⟨c0,c1,c2,c3,c4,c5,c6,c7,c8⟩:=h.cells
 obtain ⟨al,cl,el⟩:=h.log.seg.shape
 subst el
 have HS:Hid (RKb w F b (.slice al S.log.length cl) v0 v1 S):=h
 have hl:=h.ok.log
 have hsl:=h.ok.sure
 clear h c0 c3 c4 c5 c6 c7 c8
 obtain ⟨n,hn⟩:∃n,S.log.length=n:=⟨_,rfl⟩
 have HN:Hid (S.log.length=n):=hn
 rw [hn] at hl hsl c1 HS
 clear hn
 go_enter Tryz.func30,Tryz.ntmps30
 go_wp2_with fail
 go_loopw [5] (fun i wr=>∃k:Nat,S.sure<=k/\k<=n/\k-S.sure<=keep.toNat/\i=.int .i64 k/\wr=w) (fun i _=>n-(intOf i).toNat)
 case atStart=>exact ⟨S.sure,Nat.le_refl _,hsl,by omega,rfl,rfl⟩
 case round =>
  obtain ⟨k,hk3,hk4,hk5,rfl,rfl⟩:=hrel
  have wsub:IntKind.i64.wrap ((k:Int)-(S.sure:Int))=(k:Int)-(S.sure:Int):=by
   simp only [IntKind.wrap,IntKind.bits,IntKind.signed];simp;omega
  by_cases hgo:k<n/\(k:Int)-(S.sure:Int)<keep
  ·obtain ⟨g1,g2⟩:=hgo
   have i1:(k:Int)<(n:Int):=by omega
   go_wp2_with fail
   go_roundw
   case rel=>exact ⟨k+1,by omega,by omega,by omega,by go_num,trivial⟩
   case measure=>simp [intOf];omega
  ·have hkeep:k=S.keeps keep:=by
    unfold St.keeps
    rw [HN.out]
    omega
   have HK:Hid (k=S.keeps keep):=hkeep
   have HD:Hid (RK wr F (.pointer (some ⟨b,0,none⟩)) S):=⟨b,_,v0,v1,rfl,by have:=HS.out;exact this⟩
   have hdec:(k<n/\¬(k:Int)-(S.sure:Int)<keep)\/¬k<n:=by omega
   clear hkeep hgo
   rcases hdec with ⟨d1,d2⟩ | d1
   all_goals
    go_wp2_with fail
    refine (vY F _ S _ HD.out).mono ?_
    rintro e w1 ⟨p,rfl,hp⟩
    obtain ⟨g1,F1,⟨b1,lv1,u0,u1,rfl,hk1⟩,hF1⟩:=hp
    obtain ⟨a2,c2',e2⟩:=hk1.log.seg.shape
    rw [HN.out] at e2
    subst e2
    have hcp:n<=c2'/\c2'<=9223372036854775807:=by
     obtain ⟨ao',cap',hv,q1,q2,_⟩:=hk1.log.seg
     simp at hv;unfold maxLen at q2;omega
    obtain ⟨hcp1,hcp2⟩:=hcp
    have HM:Hid (wr.grownBy w1 none/\RKb w1 F1 b1 (.slice a2 n c2') u0 u1 S/\∀k,F1 k->wr.heap.size<=k):=⟨g1,hk1,hF1⟩
    have q1:=hk1.cells.2.1
    have q2:=hk1.cells.2.2.1
    have q8:=hk1.cells.2.2.2.2.2.2.2.2
    have f1:=hk1.blk.free 1
    have f2:=hk1.blk.free 2
    have f8:=hk1.blk.free 8
    have i3:(k:Int)<=(c2':Int):=by omega
    clear g1 hk1 hF1
    go_wp2_with fail
    go_ret
    refine ⟨_,rfl,?_,F1,⟨b1,.slice a2 k c2',u0,u1,rfl,?_⟩,HM.out.2.2⟩
    ·refine ah HM.out.1 (aa (aa (ae w1 b1 1 _) (ae _ b1 2 _)) (ae _ b1 8 _)) (by intro x hx;simp at hx;subst hx;exact HM.out.2.2 _ HM.out.2.1.inb)
    ·have hb:=HM.out.2.1.blk
     have hr:=HM.out.2.1
     have hok:=hr.ok
     have ol:Own w1 0 (.slice a2 k c2') (S.log.take k):=Own.take (by rw [HN.out];exact hr.log) k (by rw [HN.out];omega)
     have gg:w1.grownBy (((w1.setCell ⟨b1,1,none⟩ (.slice a2 k c2')).setCell ⟨b1,2,none⟩ (.int .i64 k)).setCell ⟨b1,8,none⟩ (.int .i64 0)) (some b1):=aa (aa (ae w1 b1 1 _) (ae _ b1 2 _)) (ae _ b1 8 _)
     have q:∀{t L},Own w1 0 t L->Own (((w1.setCell ⟨b1,1,none⟩ (.slice a2 k c2')).setCell ⟨b1,2,none⟩ (.int .i64 k)).setCell ⟨b1,8,none⟩ (.int .i64 0)) 0 t L:=fun {t L} ho=>World.ownsRow.kept ho gg (.inr (ho.other hb (by decide)))
     have es:S.stop keep={ S with log:=S.log.take k,sure:=k,steps:=0 }:=by unfold St.stop;rw [<-HK.out]
     have ok:St.Ok { S with log:=S.log.take k,sure:=k,steps:=0 }:=⟨hok.cap1,hok.cap2,by simp [HN.out];omega,by simp [HN.out];omega,hok.l0,hok.l1,hok.last,hok.first,hok.e0,hok.e1⟩
     have eo:(Value.slice a2 k c2').ownBlock=(Value.slice a2 n c2').ownBlock:=by cases a2 <;> rfl
     rw [es]
     exact ⟨((hb.store 1 _).store 2 _).store 8 _,q ol,q hr.p0,q hr.p1,fun x hx=>hr.a0 x (eo ▸ hx),fun x hx=>hr.a1 x (eo ▸ hx),hr.inb,fun x hx=>hr.inl x (eo ▸ hx),hr.in0,hr.in1,fun x hx=>Nat.lt_of_lt_of_le (hr.lt x hx) gg.size,ok⟩
theorem rQ (c:Int)(u v:Value)(log:List UInt8)(Ls:List (List UInt8))(w:World)(_hu:Seg w u log)(hv:Segs w v Ls)(hbad:c<1\/1048576<c\/2<Ls.length) :
  Calls Tryz.prog 22 #[.int .i64 c,u,v] w fun e w'=>e=.returned (.pointer none)/\w'=w:=by
 obtain ⟨ao,cap,rfl,hlen,_⟩:=hv
 by_cases h1:c<1
 ·go_enter Tryz.func22,Tryz.ntmps22
  go_wp2_with fail
  go_ret
  exact ⟨rfl,rfl⟩
 ·by_cases h2:1048576<c
  ·go_enter Tryz.func22,Tryz.ntmps22
   go_wp2_with fail
   go_ret
   exact ⟨rfl,rfl⟩
  ·have h3:2<Ls.length:=by omega
   have h4:(2:Int)<(Ls.length:Int):=by omega
   clear hbad
   go_enter Tryz.func22,Tryz.ntmps22
   go_wp2_with fail
   go_ret
   exact ⟨rfl,rfl⟩
theorem vr (c:Nat)(u v:Value)(log:List UInt8)(w:World)(hu:Seg w u log)(hv:Segs w v [])(hc1:1<=c)(hc2:c<=1048576)(hl:log.length<=140737488351232) :
  Calls Tryz.prog 22 #[.int .i64 c,u,v] w fun e w'=>∃p,e=.returned p/\RNew w w' p (St.of c log []):=by
 obtain ⟨ao,cap,rfl,hlen,hcells⟩:=hv
 obtain ⟨au,cu,huv⟩:=hu.shape
 subst huv
 have HU:Hid (Seg w (.slice au log.length cu) log):=hu
 clear hu hcells hlen
 go_enter Tryz.func22,Tryz.ntmps22
 go_wp2_with fail
 refine (jt _ log _ HU.out (by omega)).mono ?_
 rintro e wl ⟨ul,rfl,ol,gl⟩
 obtain ⟨xl,yl,e⟩:=ol.seg.shape
 subst e
 have HT:Hid (Blk (wl.alloc (.cells #[.int .i64 c,.slice xl log.length yl,.int .i64 log.length,.slice none 0 0,.slice none 0 0,.bool false,.bool false,.int .i64 (-1),.int .i64 0] 83)) wl.heap.size 83 #[.int .i64 c,.slice xl log.length yl,.int .i64 log.length,.slice none 0 0,.slice none 0 0,.bool false,.bool false,.int .i64 (-1),.int .i64 0]/\w.grownBy (wl.alloc (.cells #[.int .i64 c,.slice xl log.length yl,.int .i64 log.length,.slice none 0 0,.slice none 0 0,.bool false,.bool false,.int .i64 (-1),.int .i64 0] 83)) none/\Own (wl.alloc (.cells #[.int .i64 c,.slice xl log.length yl,.int .i64 log.length,.slice none 0 0,.slice none 0 0,.bool false,.bool false,.int .i64 (-1),.int .i64 0] 83)) w.heap.size (.slice xl log.length yl) log/\(∀k,(Value.slice xl log.length yl).ownBlock=some k->k<wl.heap.size)/\w.heap.size<=wl.heap.size/\True):=⟨heap_alloc_new _ _,aa gl (World.grownBy_alloc _ _ _),Own.alloc ol _,fun k hk=>(ol.lt k hk).2,gl.size,trivial⟩
 clear ol gl
 go_wp2_with fail
 generalize wl.alloc (.cells #[.int .i64 c,.slice xl log.length yl,.int .i64 log.length,.slice none 0 0,.slice none 0 0,.bool false,.bool false,.int .i64 (-1),.int .i64 0] 83)=w0 at HT ⊢
 generalize hB:wl.heap.size=Bk at HT ⊢
 clear hB
 refine wp_loop_rounds 1 ?_
 rw [rounds_succ]
 go_wp2_with fail
 go_ret
 have hzB:w.heap.size<=Bk:=HT.out.2.2.2.2.1
 refine ⟨_,rfl,HT.out.2.1,fun k=>w.heap.size<=k/\k<w0.heap.size,⟨Bk,.slice xl log.length yl,.slice none 0 0,.slice none 0 0,rfl,?_⟩,fun k hk=>hk.1⟩
 have p0:Own w0 (Bk+1) (.slice none 0 0) []:=Own.nil _ _
 have ap0:∀k,(Value.slice xl log.length yl).ownBlock=some k->(Value.slice none 0 0).ownBlock≠some k:=fun k _ e=>by simp [Value.ownBlock] at e
 have p1:Own w0 (Bk+1) (.slice none 0 0) []:=Own.nil _ _
 have ap1:∀k,(Value.slice xl log.length yl).ownBlock=some k->(Value.slice none 0 0).ownBlock≠some k:=fun k _ e=>by simp [Value.ownBlock] at e
 have pl:=HT.out.2.2.1
 refine ⟨HT.out.1,Own.mono pl (Nat.zero_le _),Own.mono p0 (Nat.zero_le _),Own.mono p1 (Nat.zero_le _),ap0,ap1,⟨hzB,HT.out.1.lt⟩,fun k hk=>pl.lt k hk,fun k hk=>?_,fun k hk=>?_,fun k hk=>hk.2,⟨hc1,hc2,hl,Nat.le_refl _,by simp [St.of],by simp [St.of],by simp [St.of],by simp [St.of],by simp [St.of],by simp [St.of]⟩⟩
 ·have h1:=p0.lt k hk
  exact ⟨by omega,h1.2⟩
 ·have h1:=p1.lt k hk
  exact ⟨by omega,h1.2⟩
def DQ (w:World)(F:Nat->Prop)(v:Value):Option St->Prop
 | none=>v=.pointer none
 | some S=>DK w F v S
def RQ (w:World)(F:Nat->Prop)(v:Value):Option St->Prop
 | none=>v=.pointer none
 | some S=>RK w F v S
def Few (m:Nat)(X:Option St):Prop:=∀S,X=some S->S.steps<=m
def iM (X:Option St)(f:St->Int):Int:=match X with
 | none=>1
 | some S=>f S
theorem DQ.same {w w':World}{F:Nat->Prop}{v:Value}{X:Option St}(h:DQ w F v X)(hz:w.heap.size<=w'.heap.size)(hs:∀k,F k->w'.heap[k]? = w.heap[k]?):DQ w' F v X:=by
 cases X with
 | none=>exact h
 | some S=>exact DK.same h hz hs
theorem RQ.same {w w':World}{F:Nat->Prop}{v:Value}{X:Option St}(h:RQ w F v X)(hz:w.heap.size<=w'.heap.size)(hs:∀k,F k->w'.heap[k]? = w.heap[k]?):RQ w' F v X:=by
 cases X with
 | none=>exact h
 | some S=>exact RK.same h hz hs
theorem DQ.isNil {w:World}{F:Nat->Prop}{v:Value}{X:Option St}(h:DQ w F v X):(X=none/\v=.pointer none)\/(∃S b,X=some S/\v=.pointer (some ⟨b,0,none⟩)):=by
 cases X with
 | none=>exact .inl ⟨rfl,h⟩
 | some S =>
  obtain ⟨b,_,_,_,e,_⟩:=h
  exact .inr ⟨S,b,rfl,e⟩
theorem RQ.isNil {w:World}{F:Nat->Prop}{v:Value}{X:Option St}(h:RQ w F v X):(X=none/\v=.pointer none)\/(∃S b,X=some S/\v=.pointer (some ⟨b,0,none⟩)):=by
 cases X with
 | none=>exact .inl ⟨rfl,h⟩
 | some S =>
  obtain ⟨b,_,_,_,e,_⟩:=h
  exact .inr ⟨S,b,rfl,e⟩
def DAQ (w:World)(F:Nat->Prop)(w':World)(v:Value)(X:Option St):Prop:=∃F',DQ w' F' v X/\Aft w F w' F'/\∀k,F' k->k<w'.heap.size
def RAQ (w:World)(F:Nat->Prop)(w':World)(v:Value)(X:Option St):Prop:=∃F',RQ w' F' v X/\Aft w F w' F'/\∀k,F' k->k<w'.heap.size
theorem DAft.q {w w':World}{F:Nat->Prop}{v:Value}{S:St}(h:DAft w F w' v S):DAQ w F w' v (some S):=by
 obtain ⟨F',h1,h2⟩:=h
 exact ⟨F',h1,h2,h1.lt⟩
theorem RAft.q {w w':World}{F:Nat->Prop}{v:Value}{S:St}(h:RAft w F w' v S):RAQ w F w' v (some S):=by
 obtain ⟨F',h1,h2⟩:=h
 exact ⟨F',h1,h2,h1.lt⟩
theorem gY (w:World)(F:Nat->Prop):Aft w F w F:=aP (aj _ _)
def DNQ (w w':World)(v:Value)(X:Option St):Prop:=w.grownBy w' none/\∃F,DQ w' F v X/\(∀k,F k->w.heap.size<=k)/\∀k,F k->k<w'.heap.size
def RNQ (w w':World)(v:Value)(X:Option St):Prop:=w.grownBy w' none/\∃F,RQ w' F v X/\(∀k,F k->w.heap.size<=k)/\∀k,F k->k<w'.heap.size
theorem DNew.q {w w':World}{v:Value}{S:St}(h:DNew w w' v S):DNQ w w' v (some S):=by
 obtain ⟨h1,F,h2,h3⟩:=h
 exact ⟨h1,F,h2,h3,h2.lt⟩
theorem RNew.q {w w':World}{v:Value}{S:St}(h:RNew w w' v S):RNQ w w' v (some S):=by
 obtain ⟨h1,F,h2,h3⟩:=h
 exact ⟨h1,F,h2,h3,h2.lt⟩
theorem vt (F:Nat->Prop)(v:Value)(X:Option St)(u:Value)(M:List UInt8)(w:World)(h:DQ w F v X)(hl:∀k,F k->k<w.heap.size)(hm:Few 9223372036854775806 X)(hu:Seg w u M)(hd:M≠[]->∀k,u.ownBlock=some k->¬F k) :
  Calls Tryz.prog 31 #[v,u] w fun e w'=>e=.returned (.int .i64 (iM X fun S=>S.writeCode M))/\DAQ w F w' v (X.map fun S=>S.write M):=by
 cases X with
 | none =>
  have e:v=.pointer none:=h
  subst e
  refine (kU _ _ w (.inl rfl)).mono ?_
  rintro e w' ⟨rfl,rfl⟩
  exact ⟨rfl,F,rfl,gY _ _,hl⟩
 | some S =>
  refine (oJ F v u S M w h (by have:=hm S rfl;omega) hu hd).mono ?_
  rintro e w' ⟨rfl,h2⟩
  exact ⟨rfl,h2.q⟩
theorem vu (F:Nat->Prop)(v:Value)(X:Option St)(u:Value)(M:List UInt8)(w:World)(h:RQ w F v X)(hl:∀k,F k->k<w.heap.size)(hm:Few 9223372036854775806 X)(hu:Seg w u M)(hd:M≠[]->∀k,u.ownBlock=some k->¬F k) :
  Calls Tryz.prog 32 #[v,u] w fun e w'=>e=.returned (.int .i64 (iM X fun S=>S.writeCode M))/\RAQ w F w' v (X.map fun S=>S.write M):=by
 cases X with
 | none =>
  have e:v=.pointer none:=h
  subst e
  refine (pT _ w).mono ?_
  rintro e w' ⟨rfl,rfl⟩
  exact ⟨rfl,F,rfl,gY _ _,hl⟩
 | some S =>
  refine (rO F v u S M w h (by have:=hm S rfl;omega) hu hd).mono ?_
  rintro e w' ⟨rfl,h2⟩
  exact ⟨rfl,h2.q⟩
theorem v_ (F:Nat->Prop)(v:Value)(X:Option St)(w:World)(h:DQ w F v X)(hl:∀k,F k->k<w.heap.size)(hm:Few 9223372036854775806 X) :
  Calls Tryz.prog 27 #[v] w fun e w'=>e=.returned (.int .i64 (iM X fun _S=>0))/\DAQ w F w' v (X.map fun S=>S.sync):=by
 cases X with
 | none =>
  have e:v=.pointer none:=h
  subst e
  refine (lX _ w (.inl rfl)).mono ?_
  rintro e w' ⟨rfl,rfl⟩
  exact ⟨rfl,F,rfl,gY _ _,hl⟩
 | some S =>
  refine (vo F v S w h (by have:=hm S rfl;omega)).mono ?_
  rintro e w' ⟨rfl,h2⟩
  exact ⟨rfl,h2.q⟩
theorem wf (F:Nat->Prop)(v:Value)(X:Option St)(w:World)(h:RQ w F v X)(hl:∀k,F k->k<w.heap.size)(hm:Few 9223372036854775806 X) :
  Calls Tryz.prog 28 #[v] w fun e w'=>e=.returned (.int .i64 (iM X fun _S=>0))/\RAQ w F w' v (X.map fun S=>S.sync):=by
 cases X with
 | none =>
  have e:v=.pointer none:=h
  subst e
  refine (pU w).mono ?_
  rintro e w' ⟨rfl,rfl⟩
  exact ⟨rfl,F,rfl,gY _ _,hl⟩
 | some S =>
  refine (vW F v S w h (by have:=hm S rfl;omega)).mono ?_
  rintro e w' ⟨rfl,h2⟩
  exact ⟨rfl,h2.q⟩
theorem wg (F:Nat->Prop)(v:Value)(X:Option St)(n:Int)(w:World)(h:DQ w F v X)(_h1:-9223372036854775808<=n)(_h2:n<=9223372036854775807) :
  Calls Tryz.prog 29 #[v,.int .i64 n] w fun e w'=>∃p,e=.returned p/\DNQ w w' p (X.map fun S=>S.stop n):=by
 cases X with
 | none =>
  have e:v=.pointer none:=h
  subst e
  refine (lY _ _ w (.inl rfl)).mono ?_
  rintro e w' ⟨rfl,rfl⟩
  exact ⟨_,rfl,aj _ _,fun _=>False,rfl,fun _ h=>h.elim,fun _ h=>h.elim⟩
 | some S =>
  refine (vq F v S n w h).mono ?_
  rintro e w' ⟨p,rfl,h2⟩
  exact ⟨p,rfl,h2.q⟩
theorem wh (F:Nat->Prop)(v:Value)(X:Option St)(n:Int)(w:World)(h:RQ w F v X)(h1:-9223372036854775808<=n)(h2:n<=9223372036854775807) :
  Calls Tryz.prog 30 #[v,.int .i64 n] w fun e w'=>∃p,e=.returned p/\RNQ w w' p (X.map fun S=>S.stop n):=by
 cases X with
 | none =>
  have e:v=.pointer none:=h
  subst e
  refine (pV _ w).mono ?_
  rintro e w' ⟨rfl,rfl⟩
  exact ⟨_,rfl,aj _ _,fun _=>False,rfl,fun _ h=>h.elim,fun _ h=>h.elim⟩
 | some S =>
  refine (vZ F v S n w h h1 h2).mono ?_
  rintro e w' ⟨p,rfl,h2⟩
  exact ⟨p,rfl,h2.q⟩
structure Mid (W0 w:World)(F G:Nat->Prop)(d r:Value)(X Y:Option St):Prop where
 gr:W0.grownBy w none
 dq:DQ w F d X
 rq:RQ w G r Y
 dis:∀k,F k->¬G k
 lf:∀k,F k->W0.heap.size<=k
 lg:∀k,G k->W0.heap.size<=k
 uf:∀k,F k->k<w.heap.size
 ug:∀k,G k->k<w.heap.size
theorem Mid.grown {W0 w w':World}{F G:Nat->Prop}{d r:Value}{X Y:Option St}(h:Mid W0 w F G d r X Y)(hg:w.grownBy w' none):Mid W0 w' F G d r X Y :=
 ⟨aa h.gr hg,h.dq.same hg.size (cJ hg h.uf),h.rq.same hg.size (cJ hg h.ug),h.dis,h.lf,h.lg,fun k hk=>Nat.lt_of_lt_of_le (h.uf k hk) hg.size,fun k hk=>Nat.lt_of_lt_of_le (h.ug k hk) hg.size⟩
theorem Mid.over {W0 w w':World}{F G:Nat->Prop}{d r:Value}{X Y:Option St}{q:Option Nat}(h:Mid W0 w F G d r X Y)(hg:w.grownBy w' q)(hq:∀k,q=some k->W0.heap.size<=k/\¬F k/\¬G k):Mid W0 w' F G d r X Y :=
 ⟨ah h.gr hg (fun k hk=>(hq k hk).1),h.dq.same hg.size (fun k hk=>hg.block k (h.uf k hk) (fun e=>(hq k e.symm).2.1 hk)),h.rq.same hg.size (fun k hk=>hg.block k (h.ug k hk) (fun e=>(hq k e.symm).2.2 hk)),h.dis,h.lf,h.lg,fun k hk=>Nat.lt_of_lt_of_le (h.uf k hk) hg.size,fun k hk=>Nat.lt_of_lt_of_le (h.ug k hk) hg.size⟩
theorem Mid.stepD {W0 w w':World}{F G F':Nat->Prop}{d r:Value}{X X' Y:Option St}(h:Mid W0 w F G d r X Y)(h1:DQ w' F' d X')(h2:Aft w F w' F')(h3:∀k,F' k->k<w'.heap.size):Mid W0 w' F' G d r X' Y :=
 ⟨(Fr.trans (Fr.of (F:=F) h.gr (by simp)) h2.fr (fun _ hk=>.inl hk)).grown h.lf,h1,h.rq.same h2.fr.size (h2.fr.same h.ug (fun k hk hf=>h.dis k hf hk)),h2.disj h.ug h.dis,fun k hk=>by
  rcases h2.sub k hk with h4 | h4
  ·exact h.lf k h4
  ·exact Nat.le_trans h.gr.size h4,h.lg,h3,fun k hk=>Nat.lt_of_lt_of_le (h.ug k hk) h2.fr.size⟩
theorem Mid.stepR {W0 w w':World}{F G G':Nat->Prop}{d r:Value}{X Y Y':Option St}(h:Mid W0 w F G d r X Y)(h1:RQ w' G' r Y')(h2:Aft w G w' G')(h3:∀k,G' k->k<w'.heap.size):Mid W0 w' F G' d r X Y' :=
 ⟨(Fr.trans (Fr.of (F:=G) h.gr (by simp)) h2.fr (fun _ hk=>.inl hk)).grown h.lg,h.dq.same h2.fr.size (h2.fr.same h.uf (fun k hk hf=>h.dis k hk hf)),h1,fun k hk hg=>(h2.disj h.uf (fun k hk hf=>h.dis k hf hk)) k hg hk,h.lf,fun k hk=>by
  rcases h2.sub k hk with h4 | h4
  ·exact h.lg k h4
  ·exact Nat.le_trans h.gr.size h4,fun k hk=>Nat.lt_of_lt_of_le (h.uf k hk) h2.fr.size,h3⟩
def uB (W0 w:World)(d r:Value)(X:Option St):Prop:=∃F G,Mid W0 w F G d r X X
theorem Few.map {m:Nat}{X:Option St}{f:St->St}(h:Few m X)(hf:∀S,(f S).steps<=S.steps+1):Few (m+1) (X.map f):=by
 intro S hS
 cases X with
 | none=>simp at hS
 | some T =>
  simp at hS
  subst hS
  have:=h T rfl
  have:=hf T
  omega
theorem Few.mono {m n:Nat}{X:Option St}(h:Few m X)(hmn:m<=n):Few n X:=fun S hS=>Nat.le_trans (h S hS) hmn
theorem iN (S:St)(M:List UInt8):(S.write M).steps<=S.steps+1:=by unfold St.write;cases S.full M <;> exact Nat.le_refl _
theorem nI (S:St):S.sync.steps<=S.steps+1:=Nat.le_refl _
theorem nJ (S:St)(n:Int):(S.drop n).steps<=S.steps+1:=by unfold St.drop;cases S.dropBad n <;> exact Nat.le_refl _
theorem nK (S:St)(n:Int):(S.stop n).steps<=S.steps+1:=Nat.zero_le _
end Go.Proofs.YtadhfejefpildaaGreat.Disk
