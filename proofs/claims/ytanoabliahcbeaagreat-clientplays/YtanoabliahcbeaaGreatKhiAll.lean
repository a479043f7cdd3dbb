import Derived.Test.YtanoabliahcbeaaGreatKfgAll
import Derived.Test.YtanoabliahcbeaaGreatKe
import Derived.Shelf.Abstract
set_option maxHeartbeats 8000000
set_option maxRecDepth 100000
namespace Go.Proofs.YtanoabliahcbeaaGreat.Wn
open Go.RowKit Disk Table
open _root_.Go.Proofs.YtanoabliahcbeaaGreat.Calls _root_.Go.Proofs.YtanoabliahcbeaaGreat.Command
variable {Q F:Nat->Prop} {w w':World} {b:Nat} {oa wo:Option Addr} {wc:Nat} {s:CS}
theorem opsOwn_tx {n0:Nat}{w w':World}{B:Nat}{v:Value}{l:List POp}(h:OpsOwn w B v l)(ht:Tx n0 w w'):OpsOwn w' B v l:=by
 obtain ⟨⟨vs,h1,h2,h3,h4⟩,hl⟩:=h
 have cut:∀{y:Value} {L:Bs},Names.Cut w B y L->Names.Cut w' B y L:=fun {y L} hc=>by
  rcases hc with h | ⟨g,cap,rfl,h⟩
  ·exact .inl (ht.own h)
  ·exact .inr ⟨g,cap,rfl,ht.own h⟩
 refine ⟨⟨vs,ht.row h1 (by decide),h2,h3,fun j a b=>?_⟩,hl⟩
 obtain ⟨k,v,ol,t,e,ho⟩:=h4 j a b
 exact ⟨k,v,ol,t,e,cut ho.key,cut ho.value,cut ho.old,cut ho.tos,ho.fits⟩
theorem msgsOwn_tx {n0:Nat}{w w':World}{B:Nat}{v:Value}{l:List PMsg}(h:MsgsOwn w B v l)(ht:Tx n0 w w'):MsgsOwn w' B v l:=by
 obtain ⟨⟨vs,h1,h2,h3,h4⟩,hl⟩:=h
 refine ⟨⟨vs,ht.row h1 (by decide),h2,h3,fun j a b=>?_⟩,hl⟩
 obtain ⟨ov,av,e,ho,ha⟩:=h4 j a b
 exact ⟨ov,av,e,opsOwn_tx ho ht,ht.own ha⟩
theorem msgsOwn_fr {w w':World}{G:Nat->Prop}{B:Nat}{v:Value}{l:List PMsg}(h:MsgsOwn w B v l)(hf:Fr w w' G)(hG:Gt w G)(hv:∀k,v.ownBlock=some k->¬G k):MsgsOwn w' B v l:=by
 obtain ⟨⟨vs,h1,h2,h3,h4⟩,hl⟩:=h
 refine ⟨⟨vs,owns_fr h1 hf hv,h2,h3,fun j a b=>?_⟩,hl⟩
 obtain ⟨ov,av,e,ho,ha⟩:=h4 j a b
 exact ⟨ov,av,e,opsOwn_fr ho hf hG,own_fr ha hf hG⟩
theorem Win.tx {n0:Nat}{w w':World}{b:Nat}{v:Value}{n:Nat}{L:List (Option Cr)}{m:Nat}(h:Win Q w b v n L m)(ht:Tx n0 w w'):Win Q w' b v n L m:=by
 refine h.same ?_ (fun k hk=>?_) fun i c hi=>ht.blk hi (.inl (by decide))
 ·exact ht.block b h.blk.lt (.inr ⟨_,_,_,h.blk,by decide⟩)
 ·obtain ⟨xs,hr,_⟩:=h.ring
  obtain ⟨C,hC⟩:=hr.blk k hk
  exact ht.block k hC.lt (.inr ⟨_,_,_,hC,by decide⟩)
theorem Cm.tx {n0:Nat}(h:Cm Q F w b oa wo wc s)(ht:Tx n0 w w'):Cm Q F w' b oa wo wc s:=by
 refine ⟨ht.blk h.blk (.inl (by decide)),?_,lrow_c.2 (ht.row (lrow_c.1 h.wt) (by decide)),h.wf,fun c hc=>opsOwn_tx (h.ops c hc) ht,h.fb,fun i hi=>?_,h.apart,fun i hi=>Nat.lt_of_lt_of_le (h.qlt i hi) ht.size,h.ok⟩
 ·rcases h.out with h1 | ⟨h1,ob,v,h2,h3,h4⟩
  ·exact .inl h1
  ·exact .inr ⟨h1,ob,v,h2,h3.tx ht,h4⟩
 ·obtain ⟨t,c,hb,hk⟩:=h.ft i hi
  exact ⟨t,c,ht.blk hb (.inl (by rcases hk with rfl | rfl | rfl | rfl <;> decide)),hk⟩
def Bx (Q:Nat->Prop)(w:World)(i:Nat):Prop:=Q i/\∃c,Blk w i 105 c
theorem Win.boxes {w:World}{b:Nat}{v:Value}{n:Nat}{L:List (Option Cr)}{m:Nat}(h:Win Q w b v n L m):Win (Bx Q w) w b v n L m:=by
 obtain ⟨xs,h1,h2,h3⟩:=h.ring
 refine ⟨h.blk,⟨xs,h1,h2,fun k hk hl=>?_⟩,h.low,h.room,h.size,h.top⟩
 obtain ⟨x,hx,hp⟩:=h3 k hk hl
 refine ⟨x,hx,?_⟩
 cases ho:L[k] with
 | none=>rw [ho] at hp;exact hp
 | some t =>
  rw [ho] at hp
  obtain ⟨p,e1,e2,e3⟩:=hp
  exact ⟨p,e1,e2,e3,_,e2⟩
theorem Cm.boxes (h:Cm Q F w b oa wo wc s):Cm (Bx Q w) F w b oa wo wc s :=
 ⟨h.blk,by
  rcases h.out with h1 | ⟨h1,ob,v,h2,h3,h4⟩
  ·exact .inl h1
  ·exact .inr ⟨h1,ob,v,h2,h3.boxes,h4⟩,h.wt,h.wf,h.ops,h.fb,h.ft,fun i hi hq=>h.apart i hi hq.1,fun i hi=>h.qlt i hi.1,h.ok⟩
structure Rg (Q F:Nat->Prop)(w:World)(b ob:Nat)(v:Value)(wo:Option Addr)(wc:Nat)(s:CS)(L':List (Option Cr))(Qk:Nat->Prop)(A:World):Prop where
 cm:Cm Qk F A b (some ⟨ob,0,none⟩) wo wc (s.out L')
 win:Win Qk A ob v s.size L' (lead L')
 ses:1<=s.ses
 fn:∀i,FN ob v i->F i
 fr:Fr w A F
 ql:∀i,Qk i->Q i\/w.heap.size<=i
variable {ob:Nat} {v:Value} {L':List (Option Cr)} {Qk:Nat->Prop} {A A':World}
theorem Rg.tx {n0:Nat}(h:Rg Q F w b ob v wo wc s L' Qk A)(ht:Tx n0 A A')(hn:w.heap.size<=n0):Rg Q F w b ob v wo wc s L' Qk A' :=
 ⟨h.cm.tx ht,h.win.tx ht,h.ses,h.fn,⟨ht.os.trans h.fr.os,ht.tape.trans h.fr.tape,ht.output.trans h.fr.output,Nat.le_trans h.fr.size ht.size,fun i hi hn'=>(ht.block i (Nat.lt_of_lt_of_le hi h.fr.size) (.inl (by omega))).trans (h.fr.block i hi hn')⟩,h.ql⟩
theorem Rg.grown (h:Rg Q F w b ob v wo wc s L' Qk A)(hg:A.grownBy A' none):Rg Q F w b ob v wo wc s L' Qk A' :=
 ⟨h.cm.grown hg,h.win.grown hg,h.ses,h.fn,h.fr.trans (Fr.of (F:=F) hg (by simp)) fun i hi=>.inl hi,h.ql⟩
theorem Rg.but {r:Option Nat}(h:Rg Q F w b ob v wo wc s L' Qk A)(hg:A.grownBy A' r)(hr:∀x,r=some x->w.heap.size<=x/\∃t c,Blk A x t c/\¬KT t/\t≠109/\t≠5):Rg Q F w b ob v wo wc s L' (Bx Qk A) A':=by
 have hf:Fr A A' (fun i=>r=some i):=Fr.of hg fun k hk=>hk
 have hd:∀i,F i\/Bx Qk A i->¬r=some i:=by
  rintro i hi e
  obtain ⟨_,t,c,hb,ht,_⟩:=hr i e
  rcases hi with hi | ⟨_,c2,hb2⟩
  ·obtain ⟨t2,c2,hb2,hk⟩:=h.cm.ft i hi
   exact ht (blk_type hb2 hb ▸ hk)
  ·exact ht (blk_type hb2 hb ▸ .inr (.inr (.inr rfl)))
 have hG:Gt A (fun i=>r=some i):=fun i hi=>by
  obtain ⟨_,t,c,hb,_,h1,h2⟩:=hr i hi
  exact ⟨t,c,hb,h1,h2⟩
 refine ⟨h.cm.boxes.beside hf hd hG,h.win.boxes.kept fun i hi hl=>hf.block i hl (hd i (by rcases hi with hi | hi;exact .inl (h.fn i hi);exact .inr hi)),h.ses,h.fn,?_,fun i hi=>h.ql i hi.1⟩
 refine ⟨hg.os.trans h.fr.os,hg.tape.trans h.fr.tape,hg.output.trans h.fr.output,Nat.le_trans h.fr.size hg.size,fun i hi hn=>?_⟩
 rw [hg.block i (Nat.lt_of_lt_of_le hi h.fr.size) fun e=>?_]
 ·exact h.fr.block i hi hn
 ·have:=(hr i e.symm).1
  omega
theorem Rg.turn {Q':Nat->Prop}{M:List (Option Cr)}(h:Rg Q F w b ob v wo wc s L' Qk A)(hw:Win Q' A' ob v s.size M (lead M))(hf:Fr A A' (FN ob v))(hQ:∀i,Q' i->Qk i\/(A.heap.size<=i/\i<A'.heap.size))(ho:∀c,some c ∈ M->∃c',some c' ∈ L'/\c.o=c'.o/\c.n=c'.n/\c.c=c'.c/\c.ops=c'.ops)(ok:Okc (s.out M)):Rg Q F w b ob v wo wc s M Q' A':=by
 have hG:Gt A (FN ob v):=fun i hi=>h.cm.gt i (h.fn i hi)
 refine ⟨h.cm.win (s:=s.out L') h.win h.ses h.fn hw hf hQ (fun c hc=>?_) ok,hw,h.ses,h.fn,h.fr.trans (hf.mono h.fn) fun i hi=>.inl hi,fun i hi=>?_⟩
 ·obtain ⟨c',h1,e1,e2,e3,e4⟩:=ho c hc
  rw [e1,e2,e3,e4]
  exact opsOwn_fr (h.cm.ops c' (.inl h1)) hf hG
 ·rcases hQ i hi with e | e
  ·exact h.ql i e
  ·have:=h.fr.size
   exact .inr (by omega)
theorem Rg.stp {M:List (Option Cr)}(h:Rg Q F w b ob v wo wc s M Qk A):Stp Q F w b (s.out M) A:=⟨Qk,F,⟨_,_,_,h.cm⟩,h.fr,fun _i hi=>.inl hi,h.ql⟩
theorem Rg.of (h:Cm Q F w b (some ⟨ob,0,none⟩) wo wc s)(hw:Win Q w ob v s.size s.L (lead s.L))(h1:1<=s.ses)(hF:∀i,FN ob v i->F i):Rg Q F w b ob v wo wc s s.L Q w :=
 ⟨h,hw,h1,hF,Fr.of (grown_refl w none) (by simp),fun i hi=>.inl hi⟩
theorem Rg.nf (_h:Rg Q F w b ob v wo wc s L' Qk A):∀i,FN ob v i->i<w.heap.size\/True:=fun _ _=>.inr trivial
theorem Okc.sendUp (h:Okc s)(h0:1<=s.ses)(k:Nat):Okc (s.out (mapUp (sendF s) s.L k)):=by
 have hl:=mapUp_len (sendF s) s.L k
 refine ⟨h.num,h.size,h.most,h.tmo,h.tok,h.askAt,h.ses,fun e=>?_,?_,h.now,?_,?_,h.wait⟩
 ·have:s.ses=0:=e
  omega
 ·have:=h.last
  simp only [CS.out,hl]
  exact this
 ·have e:outN (mapUp (sendF s) s.L k) (mapUp (sendF s) s.L k).length=outN s.L s.L.length:=by
   refine outN_all hl fun i hi=>?_
   rw [mapUp_get]
   cases s.L[i]? with
   | none=>rfl
   | some o=>cases o <;> simp [sendF] <;> split <;> rfl
  have:=h.few
  simp only [CS.out,e]
  exact this
 ·intro c hc
  rcases hc with hc | hc
  ·obtain ⟨i,x,hx,e⟩:=mem_mapUp hc
   have hx':=h.call x (.inl hx)
   rcases e with rfl | e
   ·exact hx'
   ·simp [sendF,stamp] at e
    split at e
    ·subst e
     exact ⟨hx'.1,hx'.2.1,h.now.1,Int.le_refl _,hx'.2.2.2.2⟩
    ·subst e
     exact hx'
  ·exact h.call c (.inr hc)
theorem Okc.endUp (h:Okc s)(h0:1<=s.ses)(P:Nat->Bool)(k:Nat):Okc (s.out (mapUp (endF P) s.L k)):=by
 have hl:=mapUp_len (endF P) s.L k
 refine ⟨h.num,h.size,h.most,h.tmo,h.tok,h.askAt,h.ses,fun e=>?_,?_,h.now,?_,?_,h.wait⟩
 ·have:s.ses=0:=e
  omega
 ·have:=h.last
  simp only [CS.out,hl]
  exact this
 ·have key:∀j,j<=s.L.length->outN (mapUp (endF P) s.L k) j<=outN s.L j:=by
   intro j
   induction j with
   | zero=>intro _;rw [outN_zero,outN_zero];exact Nat.le_refl _
   | succ j ih =>
    intro hj
    have h1:j<s.L.length:=by omega
    have e0:(mapUp (endF P) s.L k)[j]? = (s.L[j]?).map fun o=>if j<k then o.bind (endF P j) else o:=mapUp_get _ _ _ _
    rw [List.getElem?_eq_getElem h1] at e0
    have:=ih (by omega)
    cases e1:s.L[j] with
    | none =>
     rw [e1] at e0
     simp at e0
     rw [outN_none e0,outN_none (by rw [List.getElem?_eq_getElem h1,e1])]
     exact this
    | some x =>
     rw [outN_some (L:=s.L) (by rw [List.getElem?_eq_getElem h1,e1])]
     cases e3:(mapUp (endF P) s.L k)[j]? with
     | none=>rw [e3] at e0;cases e0
     | some o =>
      cases o with
      | none=>rw [outN_none e3];omega
      | some y=>rw [outN_some e3];omega
  have h1:=key s.L.length (Nat.le_refl _)
  have:=h.few
  simp only [CS.out,hl]
  omega
 ·intro c hc
  rcases hc with hc | hc
  ·obtain ⟨i,x,hx,e⟩:=mem_mapUp hc
   have hx':=h.call x (.inl hx)
   rcases e with rfl | e
   ·exact hx'
   ·unfold endF at e
    split at e
    ·cases e
    ·simp at e
     subst e
     exact hx'
  ·exact h.call c (.inr hc)
variable {Q F:Nat->Prop} {w w':World} {b:Nat} {oa wo:Option Addr} {wc:Nat} {s:CS}
theorem stamp_same (now:Int)(tmo:Nat)(c:Cr):(stamp now tmo c).id=c.id/\(stamp now tmo c).o=c.o/\(stamp now tmo c).n=c.n/\(stamp now tmo c).c=c.c/\(stamp now tmo c).ops=c.ops:=by
 unfold stamp
 split <;> exact ⟨rfl,rfl,rfl,rfl,rfl⟩
theorem lead_sent (s:CS)(k:Nat):lead (mapUp (sendF s) s.L k)=lead s.L:=lead_mapUp_some (fun _ _=>rfl) k
structure Sg (Q F:Nat->Prop)(w:World)(b ob:Nat)(v:Value)(wo:Option Addr)(wc:Nat)(s:CS)(x1 x3 sz:Nat)(k:Nat)(vl:Value)(Qk:Nat->Prop)(A:World):Prop where
 rg:Rg Q F w b ob v wo wc s (mapUp (sendF s) s.L k) Qk A
 b1:Blk A x1 27 #[.pointer (some ⟨b,0,none⟩)]
 b3:Blk A x3 55 #[vl]
 ms:MsgsOwn A w.heap.size vl (gather (sendG s) s.L k)
 gr:w.grownBy w none
 szs:sz<=A.heap.size
 row:∀i,vl.ownBlock=some i->sz+2<=i
theorem Sg.tx {Qk:Nat->Prop}{A A':World}{ob x1 x3 sz k n0:Nat}{v vl:Value}(h:Sg Q F w b ob v wo wc s x1 x3 sz k vl Qk A)(ht:Tx n0 A A')(hn:w.heap.size<=n0):Sg Q F w b ob v wo wc s x1 x3 sz k vl Qk A' :=
 ⟨h.rg.tx ht hn,ht.blk h.b1 (.inl (by decide)),ht.blk h.b3 (.inl (by decide)),msgsOwn_tx h.ms ht,h.gr,Nat.le_trans h.szs ht.size,h.row⟩
theorem Sg.grown {Qk:Nat->Prop}{A A':World}{ob x1 x3 sz k:Nat}{v vl:Value}(h:Sg Q F w b ob v wo wc s x1 x3 sz k vl Qk A)(hg:A.grownBy A' none):Sg Q F w b ob v wo wc s x1 x3 sz k vl Qk A' :=
 ⟨h.rg.grown hg,h.b1.grown hg (by simp),h.b3.grown hg (by simp),h.ms.grown hg,h.gr,Nat.le_trans h.szs hg.size,h.row⟩
theorem set_same {α:Type}{L:List α}{j:Nat}{x:α}(h:L[j]? = some x):L.set j x=L:=by
 obtain ⟨hj,e⟩:=List.getElem?_eq_some_iff.1 h
 rw [<-e]
 exact List.set_getElem_self hj
theorem gather_len {β:Type}{g:Nat->Cr->List β}{L:List (Option Cr)}(hg:∀k c,(g k c).length<=1):∀k,(gather g L k).length<=k
 | 0=>by simp [gather]
 | k+1=>by
  have:=gather_len (L:=L) hg k
  rw [gather,List.length_append]
  split
  ·rename_i c _
   have:=hg k c
   omega
  ·simp
   omega
theorem Rg.far {ob x t:Nat}{v:Value}{c:Array Value}{L':List (Option Cr)}{Qk:Nat->Prop}{A A':World}(h:Rg Q F w b ob v wo wc s L' Qk A)(hg:A.grownBy A' (some x))(hx:Blk A x t c)(h1:t≠109)(h2:t≠5)(hF:∀i,F i\/Qk i->i≠x)(hw:w.heap.size<=x):Rg Q F w b ob v wo wc s L' Qk A':=by
 have hf:Fr A A' (fun i=>i=x):=Fr.of hg fun k hk=>by simp at hk;exact hk.symm
 have hG:Gt A (fun i=>i=x):=fun i hi=>⟨t,c,(show i=x from hi) ▸ hx,h1,h2⟩
 refine ⟨h.cm.beside hf hF hG,h.win.kept fun i hi hl=>hf.block i hl (hF i (by rcases hi with hi | hi;exact .inl (h.fn i hi);exact .inr hi)),h.ses,h.fn,?_,h.ql⟩
 refine ⟨hg.os.trans h.fr.os,hg.tape.trans h.fr.tape,hg.output.trans h.fr.output,Nat.le_trans h.fr.size hg.size,fun i hi hn=>?_⟩
 rw [hg.block i (Nat.lt_of_lt_of_le hi h.fr.size) (by simp;omega)]
 exact h.fr.block i hi hn
theorem sg_put {ob x1 x3 sz k g n cap:Nat}{v vl:Value}{M:List (Option Cr)}{l l':List PMsg}{Qk:Nat->Prop}{A A2:World}(hrg:Rg Q F w b ob v wo wc s M Qk A)(hM:M=mapUp (sendF s) s.L k)(hb1:Blk A x1 27 #[.pointer (some ⟨b,0,none⟩)])(hb3:Blk A x3 55 #[vl])(hw3:w.heap.size<=x3)
  (hrow:MsgsOwn A w.heap.size vl l) (hrr:∀i,vl.ownBlock=some i->sz+2<=i) (hr2:MsgsOwn A2 w.heap.size (.slice (some ⟨g,0,none⟩) n cap) l') (hl':l'=gather (sendG s) s.L k) (hg:A.grownBy A2 vl.ownBlock) (hgg:vl.ownBlock=some g\/g=A.heap.size) (hsz:sz+2<=A.heap.size) :
  Sg Q F w b ob v wo wc s x1 x3 sz k (.slice (some ⟨g,0,none⟩) n cap) (Bx (Bx Qk A) A2) (A2.setCell ⟨x3,0,none⟩ (.slice (some ⟨g,0,none⟩) n cap))/\Fr A (A2.setCell ⟨x3,0,none⟩ (.slice (some ⟨g,0,none⟩) n cap)) (fun i=>i=x3\/vl.ownBlock=some i)/\g<A2.heap.size:=by
 subst hM
 subst hl'
 have hb:∀i,vl.ownBlock=some i->w.heap.size<=i/\∃C,Blk A i 45 C:=by
  intro i hi
  obtain ⟨⟨vs,h1,_⟩,_⟩:=hrow
  exact ⟨(World.ownsRow.lt h1 i hi).1,owns_blk h1 hi⟩
 have gs:=grown_setCell A2 x3 0 (.slice (some ⟨g,0,none⟩) n cap)
 have ne:∀{t:Nat} {c:Array Value} {x:Nat},Blk A x t c->t≠45->vl.ownBlock≠some x:=fun hx ht e=>by
  obtain ⟨_,C,hC⟩:=hb _ e
  exact ht (blk_type hx hC)
 have b1:=hb1.grown hg (ne hb1 (by decide))
 have b3:=hb3.grown hg (ne hb3 (by decide))
 have hx13:x1≠x3:=fun e=>by subst e;exact absurd (blk_type hb1 hb3) (by decide)
 refine ⟨⟨(hrg.but hg fun x hx=>?_).but gs fun x hx=>?_,b1.grown gs (by simp;omega),b3.store 0 _,hr2.set b3 (by decide) (by decide) (by decide) gs,grown_refl _ _,?_,fun i hi=>?_⟩,?_,?_⟩
 ·obtain ⟨e1,C,hC⟩:=hb x hx
  exact ⟨e1,45,C,hC,by unfold KT;omega,by decide,by decide⟩
 ·simp at hx
  subst hx
  exact ⟨hw3,55,_,b3,by unfold KT;omega,by decide,by decide⟩
 ·have:=hg.size
  have:=gs.size
  omega
 ·simp [Value.ownBlock] at hi
  subst hi
  rcases hgg with e | e
  ·exact hrr _ e
  ·omega
 ·exact (Fr.of (F:=fun i=>i=x3\/vl.ownBlock=some i) hg fun k hk=>.inr hk).trans (Fr.of (F:=fun i=>i=x3\/vl.ownBlock=some i) gs fun k hk=>by simp at hk;exact .inl hk.symm) fun i hi=>.inl hi
 ·obtain ⟨⟨vs,h1,_⟩,_⟩:=hr2
  exact (World.ownsRow.lt h1 g rfl).2
def SendP (Q F:Nat->Prop)(b:Nat)(s:CS)(w:World)(e:Ending)(w':World):Prop:=∃v,e=.returned v/\MsgsOwn w' w.heap.size v s.msgs/\Stp Q F w b s.sent w'
theorem send36 (w:World)(h:Cm Q F w b oa wo wc s)(h0:s.ses≠0):Calls Tryz.prog 36 #[.pointer (some ⟨b,0,none⟩)] w (SendP Q F b s w):=by
 obtain ⟨h1,ob,v,rfl,hw,hF⟩:=h.yeswin h0
 have HC:Hid (Cm Q F w b (some ⟨ob,0,none⟩) wo wc s/\Win Q w ob v s.size s.L (lead s.L)/\1<=s.ses/\(∀i,FN ob v i->F i)/\Goes (some ⟨ob,0,none⟩) s.L w):=⟨h,hw,h1,hF,wgoes w h⟩
 have HFN:Hid (∀i,FN ob v i->i<w.heap.size/\∀c,¬Blk w i 105 c):=fun i hi=>⟨hw.lt i hi,fun c hb=>h.fn_ne hw hb (by decide) (by decide) hi⟩
 have c8:=h.blk.cell 8
 simp at c8
 clear h hw h1 hF h0
 refine calls_marks Tryz.func36 rfl ?_
 simp only [Tryz.ntmps36,List.size_toArray,List.length_cons,List.length_nil,Nat.reduceAdd,Nat.reduceSub,Array.replicate_succ,Array.replicate_zero,List.push_toArray,List.append_toArray,List.nil_append,List.cons_append]
 go_upto_region 2 with fail
 obtain ⟨w1,hw1,H1⟩:=al2 w #[.pointer (some ⟨b,0,none⟩)] #[.slice none 0 0] 27 55
 obtain ⟨x1,hx1⟩:∃x,w.heap.size=x:=⟨_,rfl⟩
 obtain ⟨x3,hx3⟩:∃x,x1+1=x:=⟨_,rfl⟩
 rw [hw1]
 rw [hx1,hx3] at H1 ⊢
 clear hw1
 have k0:=H1.out.1.cell 0
 have k8:=H1.out.2.2.1.cell c8 (by simp)
 simp at k0
 go_wp2_with fail
 refine (all_any (some ⟨ob,0,none⟩) w1).mono ?_
 rintro e w2 ⟨rfl,hbk,hg2,hsz2⟩
 obtain ⟨bx,hbx⟩:∃x,w1.heap.size=x:=⟨_,rfl⟩
 rw [hbx] at hbk hsz2 ⊢
 have H2:Hid (Blk w2 x1 27 #[.pointer (some ⟨b,0,none⟩)]/\Blk w2 x3 55 #[.slice none 0 0]/\Blk w2 bx 82 #[.pointer (some ⟨ob,0,none⟩)]/\w.grownBy w2 none/\w2.heap.size=bx+1/\w.heap.size=x1/\x3=x1+1/\x3<bx):=⟨H1.out.1.grown hg2 (by simp),H1.out.2.1.grown hg2 (by simp),hbk,grown_trans H1.out.2.2.1 hg2,hsz2,hx1,hx3.symm,by have:=H1.out.2.2.2;omega⟩
 clear hbk hg2 hsz2 hbx hx1 hx3 H1 k0 k8 c8
 go_wp2_with fail
 obtain ⟨sz,hsz⟩:∃x,w2.heap.size=x:=⟨_,rfl⟩
 have HSZ:Hid (w2.heap.size=sz/\x3<sz/\sz=bx+1):=⟨hsz,by have:=H2.out;omega,by have:=H2.out;omega⟩
 clear hsz
 have HGV:Hid (GivesS Tryz.prog 91 #[.pointer (some ⟨bx,0,none⟩)] 0 (Fino s.L) (Xo s.L) (fun i=>FN ob v i\/i=x3) w2):=HC.out.2.2.2.2 bx w2 H2.out.2.2.2.1 H2.out.2.2.1 _ fun i hi=>by
  have h2:=H2.out
  rcases hi with hi | hi
  ·have:=HFN.out i hi
   exact ⟨by have:=h2.2.2.2.1.size;omega,this.2⟩
  ·have hi':i=x3:=hi
   exact ⟨by omega,fun c hb=>by have:=hb.lt;omega⟩
 refine wp_rangeB (id:=0) (gf:=91) (lb:=#[.pointer (some ⟨bx,0,none⟩)]) rfl (enters_of Tryz.func91 (by kernel_rfl) rfl) HGV.out ?hps
  (fun k G A=>Hid (∃vl Qk,Sg Q F w b ob v wo wc s x1 x3 sz k vl Qk A/\(∀i,vl.ownBlock=some i->G i)))
  (fun _=>False) ?hIg ?hXg ?h0 ?hround
  (fun A=>Hid (∃vl Qk,Sg Q F w b ob v wo wc s x1 x3 sz s.L.length vl Qk A)) ?hdone ?hstop ?hnext
 case hps =>
  rintro k k' W0 W1 xs ⟨_,_,_,_,_,_,rfl⟩
  rfl
 case hIg =>
  rintro k G A B HI ht
  obtain ⟨vl,Qk,hs,hG⟩:=HI.out
  exact ⟨vl,Qk,hs.tx ht (by have:=H2.out;have:=HSZ.out;omega),hG⟩
 case hXg=>exact fun _ _ h _=>h
 case h0 =>
  refine ⟨.slice none 0 0,Q,⟨?_,H2.out.1,H2.out.2.1,msgsOwn_nil _ _,grown_refl _ _,Nat.le_of_eq HSZ.out.1.symm,fun i hi=>by simp [Value.ownBlock] at hi⟩,fun i hi=>by simp [Value.ownBlock] at hi⟩
  rw [mapUp_zero]
  exact (Rg.of HC.out.1 HC.out.2.1 HC.out.2.2.1 HC.out.2.2.2.1).grown H2.out.2.2.2.1
 case hdone =>
  rintro A k G hfin HI
  obtain ⟨vl,Qk,hs,hG⟩:=HI.out
  refine ⟨vl,Qk,?_⟩
  obtain ⟨a1,a2,a3,a4,a5,a6,a7⟩:=hs
  rw [mapUp_fin hfin] at a1
  rw [gather_fin hfin] at a4
  exact ⟨a1,a2,a3,a4,a5,a6,a7⟩
 case hstop=>exact fun _ h=>h.elim
 case hnext =>
  intro A HB hd
  obtain ⟨vl,Qk,hs⟩:=HB.out
  have HS:Hid (Sg Q F w b ob v wo wc s x1 x3 sz s.L.length vl Qk A):=hs
  clear HB hs
  refine (‹∀(a:Act) (w:World),Code.wp Tryz.prog _ _ a w->_› _ _ ?_)
  have v0:=HS.out.b3.cell 0
  simp at v0
  have HD:Hid (A.heap[w2.heap.size]? = some (.deferred (some []))):=hd
  clear hd
  go_wp2_with fail
  refine ⟨by simp,.inl ⟨_,_,rfl,run_takeDeferred HD.out,?_⟩⟩
  have t1:=Tx.putD (n0:=w.heap.size) (.deferred none) HD.out (by have:=HSZ.out;have:=H2.out;omega)
  exact ⟨_,by simp [results,Tryz.results36,go_sem],vl,rfl,msgsOwn_tx HS.out.ms t1,(HS.out.rg.tx t1 (Nat.le_refl _)).stp⟩
 case hround =>
  rintro l' k k' G W0 W1 xs HI0 hlt0 htn ⟨j,c,hkj,hj,hno,rfl,rfl⟩ ⟨rc,hrc⟩
  obtain ⟨vl,Qk,hs,hG⟩:=HI0.out
  obtain ⟨vo,vn,vc,rfl,hvn⟩:=hs.ms.slice
  clear hvn
  have HNP:Hid (∀i,F i\/Qk i->i<W1.heap.size):=fun i hi=>by
   have:=htn.size
   rcases hi with hi | hi
   ·have:=hs.rg.cm.flt i hi;omega
   ·have:=hs.rg.cm.qlt i hi;omega
  have HK:Hid (k<=j/\s.L[j]? = some (some c)/\(∀i,k<=i->i<j->s.L[i]? = some none)/\j<s.L.length):=⟨hkj,hj,hno,(List.getElem?_eq_some_iff.1 hj).1⟩
  have HMU:Hid ((mapUp (sendF s) s.L k)[j]? = some (some c)/\mapUp (sendF s) s.L (j+1)=(mapUp (sendF s) s.L k).set j (some (stamp s.now s.tmo c))/\gather (sendG s) s.L (j+1)=gather (sendG s) s.L k ++ sendG s j c):=⟨mapUp_at hkj hj,mapUp_step hkj hj hno,gather_step hkj hj hno⟩
  have HO:Hid (Tx (w2.heap.size+2) W0 W1/\w2.heap.size+1<W0.heap.size/\W1.heap[w2.heap.size+1]? = some (.loop rc)):=⟨htn,hlt0,hrc⟩
  have HS0:Hid (Sg Q F w b ob v wo wc s x1 x3 sz k (.slice vo vn vc) Qk W0/\(∀i,(Value.slice vo vn vc).ownBlock=some i->G i)):=⟨hs,hG⟩
  clear htn hlt0 hrc hkj hj hno hs hG HI0
  simp only [List.zip_toArray,List.zip_cons_cons,List.zip_nil_right,List.foldl_toArray',List.size_toArray,List.foldl_cons,List.foldl_nil,List.setIfInBounds_toArray,List.set_cons_zero,List.set_cons_succ]
  refine wpIn_seq ?_
  refine region_round (by rintro ⟨_,_,h⟩;exact h) rfl ?_
  go_wp2_with fail
  have HZ:Hid (Blk (W1.alloc (.cells #[.int .i64 0,.slice none 0 0,.bool false,.int .i64 0] 105)) W1.heap.size 105 #[.int .i64 0,.slice none 0 0,.bool false,.int .i64 0]):=heap_alloc_new W1 _
  obtain ⟨y0,y1,y2,y3⟩:=cells4 HZ.out
  obtain ⟨z0,z1,z2,z3⟩:=frees4 HZ.out
  obtain ⟨Wa,hWa,HA⟩:=al1 W1 #[.int .i64 c.id,.slice c.o c.n c.c,.bool c.was,.int .i64 c.tm] 105
  have HWa:Hid (W1.alloc (.cells #[.int .i64 c.id,.slice c.o c.n c.c,.bool c.was,.int .i64 c.tm] 105)=Wa):=hWa
  clear hWa
  refine region_round (by rintro ⟨_,_,h⟩;exact h) rfl ?_
  go_wp2_with fail
  rw [HWa.out]
  obtain ⟨p5,hp5⟩:∃x,W1.heap.size=x:=⟨_,rfl⟩
  rw [hp5] at HA ⊢
  have HP5:Hid (W1.heap.size=p5/\sz+2<=p5):=⟨hp5,by have:=HO.out.1.size;have:=HO.out.2.1;have:=HSZ.out;omega⟩
  clear y0 y1 y2 y3 z0 z1 z2 z3 HZ HWa hp5
  refine ⟨HA.out.2.1,fun r=>?_⟩
  obtain ⟨W4,hW4⟩:∃W,Wa.putObj (w2.heap.size+1) (.loop r)=W:=⟨_,rfl⟩
  have HL:Hid (Wa.heap[w2.heap.size+1]? = some (.loop rc)):=by
   rw [Hid,HA.out.2.1.block _ (by have:=HO.out;have:=this.1.size;omega) (by simp)]
   exact HO.out.2.2
  have HT4:Hid (Tx (w2.heap.size+1) W0 W4/\W4.heap.size=p5+1/\(∀i,i≠w2.heap.size+1->W4.heap[i]? = Wa.heap[i]?)/\Blk W4 p5 105 #[.int .i64 c.id,.slice c.o c.n c.c,.bool c.was,.int .i64 c.tm]):=by
   have ht:Tx (w2.heap.size+1) Wa W4:=by rw [<-hW4];exact Tx.put _ HL.out (Nat.le_refl _)
   exact ⟨((HO.out.1.mono (Nat.le_succ _)).trans (Tx.of_grown HA.out.2.1)).trans ht,by rw [<-hW4];simp only [World.putObj,Array.size_setIfInBounds];have:=HA.out.2.2;have:=HP5.out;omega,fun i hi=>by rw [<-hW4,World.putObj_heap_other hi],ht.blk HA.out.1 (.inl (by decide))⟩
  rw [hW4]
  clear hW4
  have HS4:Hid (Sg Q F w b ob v wo wc s x1 x3 sz k (.slice vo vn vc) Qk W4):=HS0.out.1.tx HT4.out.1 (by have:=H2.out;have:=HSZ.out;omega)
  have HEND:Hid (∀(vl':Value) (Q':Nat->Prop) (W':World),Sg Q F w b ob v wo wc s x1 x3 sz (j+1) vl' Q' W'->Fr W4 W' (fun i=>FN ob v i\/i=x3\/(Value.slice vo vn vc).ownBlock=some i\/i=p5)->(∀i,vl'.ownBlock=some i->((Value.slice vo vn vc).ownBlock=some i\/p5<=i)/\i<W'.heap.size) →
    (W'.heap[w2.heap.size]? = W4.heap[w2.heap.size]?/\W'.heap[w2.heap.size+1]? = W4.heap[w2.heap.size+1]?)/\∃G',NewG G G' W1 W'/\KeptG w2.heap.size (w2.heap.size+2) (fun i=>FN ob v i\/i=x3) G #[.int .i64 (j+1:Nat),.agg #[.int .i64 c.id,.slice c.o c.n c.c,.bool c.was,.int .i64 c.tm]] W1 W'/\Hid (∃vl Qk,Sg Q F w b ob v wo wc s x1 x3 sz (j+1) vl Qk W'/\(∀i,vl.ownBlock=some i->G' i))):=by
   intro vl' Q' W' hs' hf hn
   have h2:=H2.out
   have hz:=HSZ.out
   have h4:=HT4.out
   have hp:=HP5.out
   have hr:=HS0.out
   have nf:∀i,sz<=i->i<sz+2->¬(FN ob v i\/i=x3\/(Value.slice vo vn vc).ownBlock=some i\/i=p5):=by
    rintro i hi hi2 (e | e | e | e)
    ·have:=HFN.out i e
     have:=h2.2.2.2.1.size
     omega
    ·omega
    ·have:=hr.1.row i e
     omega
    ·omega
   refine ⟨⟨hf.block _ (by omega) (nf _ (by omega) (by omega)),hf.block _ (by omega) (nf _ (by omega) (by omega))⟩,fun i=>vl'.ownBlock=some i,fun i hi=>?_,⟨?_,fun i h1 h2' h3 h5 h6=>?_⟩,vl',Q',hs',fun i hi=>hi⟩
   ·have:=hn i hi
    refine ⟨?_,this.2⟩
    rcases this.1 with e | e
    ·exact .inl (hr.2 i e)
    ·exact .inr (by omega)
   ·have:=hf.size
    omega
   ·rw [hf.block i (by omega) ?_,h4.2.2.1 i (by omega),HA.out.2.1.block i (by omega) (by simp)]
    rintro (e | e | e | e)
    ·exact h3 (.inl e)
    ·exact h3 (.inr e)
    ·exact h6 (hr.2 i e)
    ·omega
  have HB5:Hid (Blk W4 p5 105 #[.int .i64 c.id,.slice c.o c.n c.c,.bool c.was,.int .i64 c.tm]/\W4.heap.size=p5+1/\(∀i,F i\/Qk i->i<p5)):=⟨HT4.out.2.2.2,HT4.out.2.1,fun i hi=>by have:=HNP.out i hi;have:=HP5.out;omega⟩
  have HCB:Hid (0<=c.tm/\c.tm<=1099511627776/\0<=s.now/\s.now<=1099511627776):=by
   have h1:=HC.out.1.ok.now
   have h2:=HC.out.1.ok.call c (.inl (List.mem_iff_getElem?.2 ⟨j,HK.out.2.1⟩))
   exact ⟨h2.2.2.1,by omega,h1⟩
  clear HT4 HA HNP HL
  obtain ⟨d,hd⟩:∃d,due c.was c.tm s.now s.tmo=d:=⟨_,rfl⟩
  have HDU:Hid (due c.was c.tm s.now s.tmo=d):=hd
  clear hd
  have m1:=HS4.out.b1.cell 0
  have q2:=HB5.out.1.cell 2
  have q3:=HB5.out.1.cell 3
  have c3:W4.cell? ⟨b,3,none⟩=some (.int .i64 s.tmo):=HS4.out.rg.cm.blk.cell 3
  have c11:W4.cell? ⟨b,11,none⟩=some (.int .i64 s.now):=HS4.out.rg.cm.blk.cell 11
  simp at m1 q2 q3
  refine wpIn_block (wpIn_seq (wpIn_seq ?_))
  refine region_round_hold 1000 (fun y=>W4.grownBy y none) (by rintro ⟨_,_,h⟩;exact h) rfl (by kernel_rfl) ?_
  have G0:Hid (W4.grownBy W4.drew none):=grown_drew _ _
  generalize W4.drew=wd at G0 ⊢
  have J:Idx [0,1,2,3,4,5,6,7,8,9]:=trivial
  iterate 10 (refine tK J (G0.out) rfl rfl (fun wk hk=>by have k1:=hk.cell m1 (by simp);have k2:=hk.cell q2 (by simp);have k3:=hk.cell q3 (by simp);have k4:=hk.cell c3 (by simp);have k5:=hk.cell c11 (by simp);go_simp;try rfl) ?_;replace J:=J.tl;try simp only [pN])
  clear J
  refine wpHold_one (i:=10) rfl (by kernel_rfl) (by rfl) (fun K hK=>?_)
  go_wp2_with fail
  refine (due_cl wd c.was c.tm s.now s.tmo ⟨HCB.out.1,HCB.out.2.1⟩ HCB.out.2.2).mono ?_
  rintro e w5 ⟨rfl,hg⟩
  rw [HDU.out]
  have G5:Hid (W4.grownBy w5 none):=grown_trans G0.out hg
  clear hg
  go_wp2_with fail
  refine hK.out _ _ (fun _=>G5.out) ?_
  clear hK K
  try simp only [pN]
  have J:Idx [11]:=trivial
  iterate 1 (refine tK J (G5.out) rfl rfl (fun wk hk=>by have k1:=hk.cell m1 (by simp);have k2:=hk.cell q2 (by simp);have k3:=hk.cell q3 (by simp);have k4:=hk.cell c3 (by simp);have k5:=hk.cell c11 (by simp);go_simp;try rfl) ?_;replace J:=J.tl;try simp only [pN])
  clear J
  refine wpHold_done (by kernel_rfl) ?_
  clear m1 q2 q3 c3 c11
  cases d with
  | false =>
   have HX:Hid (stamp s.now s.tmo c=c/\sendG s j c=[]):=by
    constructor
    ·unfold stamp
     rw [HDU.out]
     rfl
    ·unfold sendG
     rw [HDU.out]
     rfl
   refine wpIn_cond_true rfl (wpIn_exit ?_)
   refine HEND.out (.slice vo vn vc) Qk w5 ?_ (Fr.of G5.out (by simp)) fun i hi=>⟨.inl hi,?_⟩
   ·obtain ⟨a1,a2,a3,a4,a5,a6,a7⟩:=HS4.out.grown G5.out
    refine ⟨?_,a2,a3,?_,a5,a6,a7⟩
    ·rw [HMU.out.2.1,HX.out.1,set_same HMU.out.1]
     exact a1
    ·rw [HMU.out.2.2,HX.out.2,List.append_nil]
     exact a4
   ·obtain ⟨⟨vs,h1,_⟩,_⟩:=(HS4.out.grown G5.out).ms
    exact (World.ownsRow.lt h1 i hi).2
  | true =>
   refine wpIn_cond_false rfl (wpIn_skip ?_)
   have HX:Hid (stamp s.now s.tmo c=⟨c.id,c.o,c.n,c.c,c.ops,true,s.now⟩/\sendG s j c=[msgCall s j c]):=by
    constructor
    ·unfold stamp
     rw [HDU.out]
     rfl
    ·unfold sendG
     rw [HDU.out]
     rfl
   have HS5:Hid (Sg Q F w b ob v wo wc s x1 x3 sz k (.slice vo vn vc) Qk w5/\Blk w5 p5 105 #[.int .i64 c.id,.slice c.o c.n c.c,.bool c.was,.int .i64 c.tm]):=⟨HS4.out.grown G5.out,HB5.out.1.grown G5.out (by simp)⟩
   have m1:=HS5.out.1.b1.cell 0
   have c11:w5.cell? ⟨b,11,none⟩=some (.int .i64 s.now):=HS5.out.1.rg.cm.blk.cell 11
   obtain ⟨_,_,y2,y3⟩:=cells4 HS5.out.2
   obtain ⟨_,_,z2,z3⟩:=frees4 HS5.out.2
   simp at m1
   refine wpIn_seq ?_
   refine region_round (by rintro ⟨_,_,h⟩;exact h) rfl ?_
   go_wp2_with fail
   have g6:=grown_trans (grown_setCell w5 p5 2 (.bool true)) (grown_setCell (w5.setCell ⟨p5,2,none⟩ (.bool true)) p5 3 (.int .i64 s.now))
   have b6:=(HS5.out.2.store 2 (.bool true)).store 3 (.int .i64 s.now)
   generalize (w5.setCell ⟨p5,2,none⟩ (.bool true)).setCell ⟨p5,3,none⟩ (.int .i64 s.now)=W6 at g6 b6 ⊢
   have HS6:Hid (Sg Q F w b ob v wo wc s x1 x3 sz k (.slice vo vn vc) Qk W6/\Blk W6 p5 105 #[.int .i64 c.id,.slice c.o c.n c.c,.bool true,.int .i64 s.now]/\Fr W4 W6 (fun i=>i=p5)):=by
    obtain ⟨a1,a2,a3,a4,a5,a6,a7⟩:=HS5.out.1
    have hp:=HS5.out.2
    have h2:=H2.out
    have h5:=HP5.out
    have hz:=HSZ.out
    refine ⟨⟨a1.far g6 hp (by decide) (by decide) (fun i hi=>by have:=HB5.out.2.2 i hi;omega) (by omega),a2.grown g6 (by simp;omega),a3.grown g6 (by simp;omega),a4.set hp (by decide) (by decide) (by decide) g6,a5,Nat.le_trans a6 g6.size,a7⟩,by simpa using b6,?_⟩
    exact (Fr.of (F:=fun i=>i=p5) G5.out (by simp)).trans (Fr.of (F:=fun i=>i=p5) g6 fun k hk=>by simp at hk;exact hk.symm) fun i hi=>.inl hi
   clear g6 b6 m1 c11 y2 y3 z2 z3 HS5
   have m1:=HS6.out.1.b1.cell 0
   have c8:W6.cell? ⟨b,8,none⟩=some (.pointer (some ⟨ob,0,none⟩)):=HS6.out.1.rg.cm.blk.cell 8
   obtain ⟨y0,y1,y2,y3⟩:=cells4 HS6.out.2.1
   simp at m1
   refine wpIn_seq ?_
   refine region_round_hold 6 (fun y=>W6.grownBy y none) (by rintro ⟨_,_,h⟩;exact h) rfl (by kernel_rfl) ?_
   have G6:Hid (W6.grownBy W6.drew none):=grown_drew _ _
   generalize W6.drew=wd6 at G6 ⊢
   have J:Idx [0,1,2,3,4,5]:=trivial
   iterate 6 (refine tK J (G6.out) rfl rfl (fun wk hk=>by have k1:=hk.cell m1 (by simp);have k2:=hk.cell c8 (by simp);have j0:=hk.cell y0 (by simp);have j1:=hk.cell y1 (by simp);have j2:=hk.cell y2 (by simp);have j3:=hk.cell y3 (by simp);go_simp;try rfl) ?_;replace J:=J.tl;try simp only [pN])
   clear J
   refine wpHold_one (i:=6) rfl (by kernel_rfl) (by rfl) (fun K hK=>?_)
   go_wp2_with fail
   refine (set_yes ob v s.size (mapUp (sendF s) s.L k) (lead (mapUp (sendF s) s.L k)) ((j+1:Nat):Int) ⟨c.id,c.o,c.n,c.c,c.ops,true,s.now⟩ wd6 (HS6.out.1.rg.win.grown G6.out) (by rw [mapUp_len];exact HC.out.1.len.1)).mono ?_
   rintro e w7 ⟨rfl,hw7,hf7⟩
   have H7:Hid (Rg Q F w b ob v wo wc s (mapUp (sendF s) s.L (j+1)) (Qn Qk wd6 w7) w7/\Fr wd6 w7 (FN ob v)):=by
    have e:outD (mapUp (sendF s) s.L k) ((j+1:Nat):Int)=some c:=by rw [outD_nat,HMU.out.1];rfl
    rw [putL_some e,<-HX.out.1,<-HMU.out.2.1] at hw7
    have hl:lead (mapUp (sendF s) s.L k)=lead (mapUp (sendF s) s.L (j+1)):=by rw [lead_sent,lead_sent]
    rw [hl] at hw7
    refine ⟨(HS6.out.1.rg.grown G6.out).turn hw7 hf7 (fun i hi=>hi) (fun c' hc'=>?_) (HC.out.1.ok.sendUp HC.out.2.2.1 _),hf7⟩
    rw [HMU.out.2.1] at hc'
    rcases List.mem_or_eq_of_mem_set hc' with h | h
    ·exact ⟨c',h,rfl,rfl,rfl,rfl⟩
    ·simp at h
     have hh:=stamp_same s.now s.tmo c
     rw [h]
     exact ⟨c,List.mem_iff_getElem?.2 ⟨j,HMU.out.1⟩,hh.2⟩
   clear hw7 hf7
   go_wp2_with fail
   refine hK.out _ _ (fun h=>absurd rfl h) ?_
   clear hK K
   try simp only [pN]
   refine wpHold_done (by kernel_rfl) ?_
   clear m1 c8 y0 y1 y2 y3
   have HB7:Hid (Blk w7 x1 27 #[.pointer (some ⟨b,0,none⟩)]/\Blk w7 x3 55 #[.slice vo vn vc]/\MsgsOwn w7 w.heap.size (.slice vo vn vc) (gather (sendG s) s.L k)/\Blk w7 p5 105 #[.int .i64 c.id,.slice c.o c.n c.c,.bool true,.int .i64 s.now]/\Fr W4 w7 (fun i=>FN ob v i\/i=p5)):=by
    have h2:=H2.out
    have hz:=HSZ.out
    have h5:=HP5.out
    have nx:∀i,w.heap.size<=i->¬FN ob v i:=fun i hi e=>by
     have:=HFN.out i e
     omega
    have hG:Gt wd6 (FN ob v):=fun i hi=>(HS6.out.1.rg.grown G6.out).cm.gt i (HC.out.2.2.2.1 i hi)
    have f7:=H7.out.2
    have a:=HS6.out.1.grown G6.out
    refine ⟨a.b1.same (f7.block _ a.b1.lt (nx _ (by omega))),a.b3.same (f7.block _ a.b3.lt (nx _ (by omega))),msgsOwn_fr a.ms f7 hG fun i hi e=>nx i ?_ e,?_,?_⟩
    ·have:=a.row i hi
     omega
    ·have hb:=HS6.out.2.1.grown G6.out (by simp)
     exact hb.same (f7.block _ hb.lt (nx _ (by omega)))
    ·exact ((HS6.out.2.2.mono (G:=fun i=>FN ob v i\/i=p5) fun i hi=>.inr hi).trans (Fr.of (F:=fun i=>FN ob v i\/i=p5) G6.out (by simp)) fun i hi=>.inl hi).trans (f7.mono (G:=fun i=>FN ob v i\/i=p5) fun i hi=>.inl hi) fun i hi=>.inl hi
   clear HS6
   have HM:Hid (okM ⟨1,s.num,⟨2,0,s.ses,((j+1:Nat):Int),lead s.L,c.ops⟩,zeroR⟩=true/\InC ⟨2,0,s.ses,((j+1:Nat):Int),lead s.L,c.ops⟩):=ok_call HC.out.1.ok HC.out.2.2.1 (by
    rcases Nat.lt_or_ge j (lead s.L) with h | h
    ·have:=lead_low s.L j h
     rw [HK.out.2.1] at this
     cases this
    ·exact h) HK.out.2.1
   have HOP:Hid (∀y,w7.grownBy y none->Ops y (.slice c.o c.n c.c) c.ops):=fun y hy=>by
    have h:OpsOwn w7 0 (.slice (stamp s.now s.tmo c).o (stamp s.now s.tmo c).n (stamp s.now s.tmo c).c) (stamp s.now s.tmo c).ops:=H7.out.1.cm.ops _ (.inl (List.mem_iff_getElem?.2 ⟨j,by
     show (mapUp (sendF s) s.L (j+1))[j]? = _
     rw [HMU.out.2.1,List.getElem?_set_self (by rw [mapUp_len];exact HK.out.2.2.2)]⟩))
    have e:=stamp_same s.now s.tmo c
    rw [e.2.1,e.2.2.1,e.2.2.2.1,e.2.2.2.2] at h
    exact (h.grown hy).ops
   have HRD:Hid (∀y,w7.grownBy y (Value.slice vo vn vc).ownBlock->y.cell? ⟨x1,0,none⟩=some (.pointer (some ⟨b,0,none⟩))/\y.cell? ⟨x3,0,none⟩=some (.slice vo vn vc)/\y.cell? ⟨b,0,none⟩=some (.int .i64 s.num)/\y.cell? ⟨b,7,none⟩=some (.int .i64 s.ses)/\y.cell? ⟨b,8,none⟩=some (.pointer (some ⟨ob,0,none⟩))/\y.cell? ⟨p5,1,none⟩=some (.slice c.o c.n c.c)):=by
    intro y hy
    have ne:∀{t:Nat} {C:Array Value} {x:Nat},Blk w7 x t C->t≠45->(Value.slice vo vn vc).ownBlock≠some x:=fun hx ht e=>by
     obtain ⟨⟨vs,h1,_⟩,_⟩:=HB7.out.2.2.1
     obtain ⟨C,hC⟩:=owns_blk h1 e
     exact ht (blk_type hx hC)
    have hb:=H7.out.1.cm.blk
    exact ⟨(HB7.out.1.grown hy (ne HB7.out.1 (by decide))).cell 0,(HB7.out.2.1.grown hy (ne HB7.out.2.1 (by decide))).cell 0,(hb.grown hy (ne hb (by decide))).cell 0,(hb.grown hy (ne hb (by decide))).cell 7,(hb.grown hy (ne hb (by decide))).cell 8,(HB7.out.2.2.2.1.grown hy (ne HB7.out.2.2.2.1 (by decide))).cell 1⟩
   refine region_round_hold 18 (fun y=>w7.grownBy y (Value.slice vo vn vc).ownBlock) (by rintro ⟨_,_,h⟩;exact h) rfl (by kernel_rfl) ?_
   have G7:Hid (w7.grownBy w7.drew none):=grown_drew _ _
   generalize w7.drew=wd7 at G7 ⊢
   have J:Idx [0,1,2,3,4,5,6,7,8,9,10,12,13]:=trivial
   iterate 13 (refine tK J ((grown_mono G7.out)) rfl rfl (fun wk hk=>by obtain ⟨k1,k2,k3,k4,k5,k6⟩:=HRD.out wk hk;go_simp;try rfl) ?_;replace J:=J.tl;try simp only [pN])
   clear J
   refine wpHold_one (i:=11) rfl (by kernel_rfl) (by rfl) (fun K hK=>?_)
   go_wp2_with fail
   refine (mark_yes ob v s.size (mapUp (sendF s) s.L (j+1)) (lead (mapUp (sendF s) s.L (j+1))) wd7 (H7.out.1.win.grown G7.out)).mono ?_
   rintro e wm ⟨rfl,rfl⟩
   rw [lead_sent]
   go_wp2_with fail
   refine hK.out _ _ (fun _=>grown_mono G7.out) ?_
   clear hK K
   try simp only [pN]
   have J:Idx [14]:=trivial
   iterate 1 (refine tK J ((grown_mono G7.out)) rfl rfl (fun wk hk=>by obtain ⟨k1,k2,k3,k4,k5,k6⟩:=HRD.out wk hk;go_simp;try rfl) ?_;replace J:=J.tl;try simp only [pN])
   clear J
   refine wpHold_one (i:=15) rfl (by kernel_rfl) (by rfl) (fun K hK=>?_)
   go_wp2_with fail
   refine (ask43 b s.num (.slice c.o c.n c.c) ⟨2,0,s.ses,((j+1:Nat):Int),lead s.L,c.ops⟩ wm (HRD.out wm (grown_mono G7.out)).2.2.1 (HOP.out wm G7.out) HM.out.2 HC.out.1.ok.num HM.out.1).mono ?_
   rintro e w8 ⟨ov,av,rfl,ho,ha,hg⟩
   have H8:Hid (w7.grownBy w8 none/\OpsOwn w8 w.heap.size ov c.ops/\Disk.Own w8 w.heap.size av []):=by
    have hz:=Nat.le_trans H7.out.1.fr.size G7.out.size
    exact ⟨grown_trans G7.out hg,ho.mono hz,ha.mono hz⟩
   obtain ⟨uo,un,uc,rfl⟩:=isSl_ow ho
   obtain ⟨ao,an,ac,rfl⟩:=isSl_on ha
   clear ho ha hg
   unfold msgV zeroR
   dsimp only
   go_wp2_with fail
   refine hK.out _ _ (fun _=>grown_mono H8.out.1) ?_
   clear hK K
   try simp only [pN]
   refine wpHold_one (i:=16) rfl (by kernel_rfl) (by rfl) (fun K hK=>?_)
   obtain ⟨w9,hw9,H9'⟩:=al1 w8 #[.int .i64 1,.int .i64 s.num,.int .i64 2,.int .i64 0,.int .i64 s.ses,.int .i64 ((j:Int)+1),.int .i64 (lead s.L),.slice uo un uc,.int .i64 0,.int .i64 0,.int .i64 0,.int .i64 0,.slice ao an ac] 45
   obtain ⟨p9,hp9⟩:∃x,w8.heap.size=x:=⟨_,rfl⟩
   rw [hp9] at H9'
   have HW9:Hid (w8.alloc (.cells #[.int .i64 1,.int .i64 s.num,.int .i64 2,.int .i64 0,.int .i64 s.ses,.int .i64 ((j:Int)+1),.int .i64 (lead s.L),.slice uo un uc,.int .i64 0,.int .i64 0,.int .i64 0,.int .i64 0,.slice ao an ac] 45)=w9/\w8.heap.size=p9):=⟨hw9,hp9⟩
   clear hw9 hp9
   go_wp2_with fail
   rw [HW9.out.1,HW9.out.2]
   have H9:Hid (MB w9 p9 (.slice uo un uc) (.slice ao an ac) (msgCall s j c)/\w7.grownBy w9 none/\OpsOwn w9 w.heap.size (.slice uo un uc) c.ops/\Disk.Own w9 w.heap.size (.slice ao an ac) []):=⟨H9'.out.1,grown_trans H8.out.1 H9'.out.2.1,H8.out.2.1.grown H9'.out.2.1,H8.out.2.2.grown H9'.out.2.1⟩
   clear HW9 H9'
   refine hK.out _ _ (fun _=>grown_mono H9.out.2.1) ?_
   clear hK K
   try simp only [pN]
   refine wpHold_one (i:=17) rfl (by kernel_rfl) (by rfl) (fun K hK=>?_)
   refine app34_wp w9 _ _ rfl w.heap.size (.slice vo vn vc) (gather (sendG s) s.L k) (msgCall s j c) p9 _ _ rfl rfl (HB7.out.2.2.1.grown H9.out.2.1) H9.out.1 H9.out.2.2.1 H9.out.2.2.2 ?g0 ?g1 ?_
   case g0 =>
    have:=gather_len (g:=sendG s) (L:=s.L) (fun k c=>by unfold sendG;split <;> simp) k
    have:=HK.out
    have:=HC.out.1.len.1
    omega
   case g1=>exact Nat.le_trans H7.out.1.fr.size H9.out.2.1.size
   intro g' cap' w10 hr hg hgg
   have H10:Hid (Sg Q F w b ob v wo wc s x1 x3 sz (j+1) (.slice (some ⟨g',0,none⟩) ((gather (sendG s) s.L k).length+1) cap') (Bx (Bx (Qn Qk wd6 w7) w9) w10) (w10.setCell ⟨x3,0,none⟩ (.slice (some ⟨g',0,none⟩) ((gather (sendG s) s.L k).length+1) cap'))/\Fr w9 (w10.setCell ⟨x3,0,none⟩ (.slice (some ⟨g',0,none⟩) ((gather (sendG s) s.L k).length+1) cap')) (fun i=>i=x3\/(Value.slice vo vn vc).ownBlock=some i)/\g'<w10.heap.size):=by
    have h2:=H2.out
    have hz:=HSZ.out
    have hb:=HB7.out
    have h9:=H9.out
    have hw9:=h9.2.1.size
    have hw7:=hb.2.2.2.1.lt
    have hp:=HP5.out
    exact sg_put (H7.out.1.grown h9.2.1) rfl (hb.1.grown h9.2.1 (by simp)) (hb.2.1.grown h9.2.1 (by simp)) (by omega) (hb.2.2.1.grown h9.2.1) HS0.out.1.row hr (by rw [HMU.out.2.2,HX.out.2]) hg hgg (by omega)
   have H11:Hid (w7.grownBy w10 (Value.slice vo vn vc).ownBlock/\((Value.slice vo vn vc).ownBlock=some g'\/p5<=g')/\(∃x,w10.cell? ⟨x3,0,none⟩=some x)/\w10.frozen? ⟨x3,0,none⟩=false):=by
    have hb:=HB7.out
    have g:=grown_trans (grown_mono (r:=(Value.slice vo vn vc).ownBlock) H9.out.2.1) hg
    have ne:(Value.slice vo vn vc).ownBlock≠some x3:=fun e=>by
     obtain ⟨⟨vs,h1,_⟩,_⟩:=hb.2.2.1
     obtain ⟨C,hC⟩:=owns_blk h1 e
     exact absurd (blk_type hb.2.1 hC) (by decide)
    have b3:=hb.2.1.grown g ne
    refine ⟨g,?_,⟨_,b3.cell 0⟩,b3.free 0⟩
    rcases hgg with e | e
    ·exact .inl e
    ·have:=hb.2.2.2.1.lt
     have:=H9.out.2.1.size
     exact .inr (by omega)
   clear hr hg hgg
   refine hK.out _ _ (fun _=>H11.out.1) ?_
   clear hK K
   try simp only [pN]
   refine wpHold_one (i:=18) rfl (by kernel_rfl) (by rfl) (fun K hK=>?_)
   obtain ⟨⟨x0,hx0⟩,hf0⟩:=H11.out.2.2
   go_wp2_with fail
   refine hK.out _ _ (fun h=>absurd rfl h) ?_
   clear hK K
   try simp only [pN]
   refine wpHold_done (by kernel_rfl) ?_
   refine HEND.out _ _ _ H10.out.1 ?_ fun i hi=>?_
   ·have f1:=HB7.out.2.2.2.2.mono (G:=fun i=>FN ob v i\/i=x3\/(Value.slice vo vn vc).ownBlock=some i\/i=p5) fun i hi=>by
     rcases hi with h | h
     ·exact .inl h
     ·exact .inr (.inr (.inr h))
    have f2:=Fr.of (F:=fun i=>FN ob v i\/i=x3\/(Value.slice vo vn vc).ownBlock=some i\/i=p5) H9.out.2.1 (by simp)
    have f3:=H10.out.2.1.mono (G:=fun i=>FN ob v i\/i=x3\/(Value.slice vo vn vc).ownBlock=some i\/i=p5) fun i hi=>by
     rcases hi with h | h
     ·exact .inr (.inl h)
     ·exact .inr (.inr (.inl h))
    exact (f1.trans f2 fun i hi=>.inl hi).trans f3 fun i hi=>.inl hi
   ·simp [Value.ownBlock] at hi
    subst hi
    refine ⟨H11.out.2.1,?_⟩
    have:=H10.out.2.2
    simpa using this
end Go.Proofs.YtanoabliahcbeaaGreat.Wn
