import Derived.Test.YtanoabliahcbeaaGreatTableRG
import Derived.RangeFuncNested
import Derived.RangeFuncBound
import Derived.RangeFuncCalls
import Derived.RangeFuncLeaves
namespace Go.Proofs.YtanoabliahcbeaaGreat
open Go.RowKit Disk Table
structure Tx (n0:Nat)(W W':World):Prop where
 os:W'.os=W.os
 tape:W'.tape=W.tape
 output:W'.output=W.output
 size:W.heap.size<=W'.heap.size
 block:∀i,i<W.heap.size->(i<n0\/∃c t f,W.heap[i]? = some (.cells c t f)/\t≠107)->W'.heap[i]? = W.heap[i]?
theorem Tx.refl (n0:Nat)(W:World):Tx n0 W W:=⟨rfl,rfl,rfl,Nat.le_refl _,fun _ _ _=>rfl⟩
theorem Tx.of_grown {n0:Nat}{W W':World}(h:W.grownBy W' none):Tx n0 W W':=⟨h.os,h.tape,h.output,h.size,fun i hi _=>h.block i hi (by simp)⟩
theorem Tx.of_tn {n0:Nat}{W W':World}(h:Tn n0 W W'):Tx n0 W W':=⟨h.os,h.tape,h.output,h.size,fun i hi hc=>h.block i hi (by
 rcases hc with hc | ⟨c,t,f,hc,_⟩
 ·exact .inl hc
 ·exact .inr ⟨c,t,f,hc⟩)⟩
theorem Tx.trans {n0:Nat}{A B C:World}(h:Tx n0 A B)(k:Tx n0 B C):Tx n0 A C :=
 ⟨k.os.trans h.os,k.tape.trans h.tape,k.output.trans h.output,Nat.le_trans h.size k.size,fun i hi hc=>by
  have h1:=h.block i hi hc
  rw [<-h1]
  refine k.block i (Nat.lt_of_lt_of_le hi h.size) ?_
  rcases hc with hc | ⟨c,t,f,hc,ht⟩
  ·exact .inl hc
  ·exact .inr ⟨c,t,f,h1.trans hc,ht⟩⟩
theorem Tx.mono {n0 n1:Nat}{A B:World}(h:Tx n1 A B)(hn:n0<=n1):Tx n0 A B:=⟨h.os,h.tape,h.output,h.size,fun i hi hc=>h.block i hi (by rcases hc with hc | hc;exact .inl (by omega);exact .inr hc)⟩
theorem Tx.put {n0:Nat}{W:World}{b:Nat}{r:Loop}(o:Obj)(hb:W.heap[b]? = some (.loop r))(hn:n0<=b):Tx n0 W (W.putObj b o):=Tx.of_tn (Tn.put o hb hn)
theorem Tx.putD {n0:Nat}{W:World}{b:Nat}{d:Option (List Deferred)}(o:Obj)(hb:W.heap[b]? = some (.deferred d))(hn:n0<=b):Tx n0 W (W.putObj b o):=Tx.of_tn (Tn.putD o hb hn)
theorem Tx.blk {n0:Nat}{W W':World}(h:Tx n0 W W'){b t:Nat}{c:Array Value}(hb:Blk W b t c)(ht:t≠107\/b<n0):Blk W' b t c:=(h.block b hb.lt (by
 rcases ht with ht | ht
 ·exact .inr ⟨_,_,_,hb,ht⟩
 ·exact .inl ht)).trans hb
theorem Tx.own {n0:Nat}{W W':World}(h:Tx n0 W W'){B:Nat}{v:Value}{L:List UInt8}(hs:Disk.Own W B v L):Disk.Own W' B v L:=hs.same fun k hk=>by
 rcases hs.2 with ⟨rfl,_⟩ | ⟨g,cap,cur,rfl,_,h3,_⟩
 ·simp [Value.ownBlock] at hk
 ·simp [Value.ownBlock] at hk
  subst hk
  exact h.block _ (Array.getElem?_eq_some_iff.1 h3).1 (.inr ⟨_,_,_,h3,by decide⟩)
theorem Tx.row {n0:Nat}{W W':World}(h:Tx n0 W W'){B t c:Nat}{v:Value}{n:Nat}{xs:List Value}(hs:W.ownsRow B t c v n xs)(ht:t≠107):W'.ownsRow B t c v n xs:=by
 refine ⟨hs.1,?_⟩
 rcases hs.2 with h2 | ⟨g,cap,cur,h1,h2,h3,h4⟩
 ·exact .inl h2
 ·exact .inr ⟨g,cap,cur,h1,h2,(h.block _ (Array.getElem?_eq_some_iff.1 h3).1 (.inr ⟨_,_,_,h3,ht⟩)).trans h3,h4⟩
def NewG (G G':Nat->Prop)(W1 W':World):Prop:=∀i,G' i->(G i\/W1.heap.size<=i)/\i<W'.heap.size
def HandA (xs:Array Value)(i:Nat):Prop:=Table.Handed xs i\/False
def KeptG (n1 n0:Nat)(Fw G:Nat->Prop)(xs:Array Value)(W1 W':World):Prop:=W1.heap.size<=W'.heap.size/\∀i,i<W1.heap.size->(i<n1\/n0<=i)->¬Fw i->¬HandA xs i->¬G i->W'.heap[i]? = W1.heap[i]?
def GivesS {σ:Type}(P:Program)(gf:Nat)(lb:Array Value)(s0:σ)(Fin:σ->Prop)(X:σ->σ->World->World->Array Value->Prop)(Fw:Nat->Prop)(w:World):Prop :=
 ∀(l:Nat) (J:σ->(Nat->Prop)->World->Prop) (Jx:World->Prop) (W:World),w.grownBy W none →
  (∀k G A B,J k G A->Tx W.heap.size A B->J k G B)->(∀A B,Jx A->Tx W.heap.size A B->Jx B) →
  (∀s s' G W0 W1 xs,J s G W0->W.heap.size<=W0.heap.size->Tx W.heap.size W0 W1->X s s' W0 W1 xs->YieldAt Fence.wide 0 P l xs W1 fun e W'=>(e=.returned (.bool true)/\∃G',NewG G G' W1 W'/\J s' G' W'/\KeptG w.heap.size W.heap.size Fw G xs W1 W')\/(e=.returned (.bool false)/\Jx W'/\KeptG w.heap.size W.heap.size Fw G xs W1 W')) →
  J s0 (fun _=>False) W->Calls P gf (#[.func (.yield l) #[] #[]] ++ lb) W fun e W'=>(∃v,e=.returned v)/\((∃s G,Fin s/\J s G W')\/Jx W')
def roundEndE {σ:Type}(id S:Nat)(Fw:Nat->Prop)(I:σ->(Nat->Prop)->World->Prop)(Ix:World->Prop)(s':σ)(G:Nat->Prop)(xs:Array Value)(W1 W2:World):Exit->Act->World->Prop
 | .normal,_,W'=>(W'.heap[S]? = W2.heap[S]?/\W'.heap[S+1]? = W2.heap[S+1]?)/\∃G',NewG G G' W1 W'/\KeptG S (S+2) Fw G xs W1 W'/\I s' G' W'
 | .exit id',_,W'=>id'=id/\(W'.heap[S]? = W2.heap[S]?/\W'.heap[S+1]? = W2.heap[S+1]?)/\KeptG S (S+2) Fw G xs W1 W'/\Ix W'
 | _,_,_=>False
theorem wp_rangeE {σ:Type}(id:Nat){P:Program}{g:Operand}{ps:Array Tmp}{assign body:Code}{Q:Exit->Act->World->Prop}{a:Act}{w:World}{gf:Nat}{lb:Array Value}
  (hg:a.eval g=.func (.func gf) #[] lb) (eg:∀args w,(callFunc gf args).run P w=.ok (.enter gf args) w)
  {s0:σ} {Fin:σ->Prop} {X:σ->σ->World->World->Array Value->Prop} {Fw:Nat->Prop} (hseq:GivesS P gf lb s0 Fin X Fw w) (hps:∀s s' W0 W1 xs,X s s' W0 W1 xs->xs.size=ps.size)
  (I:σ->(Nat->Prop)->World->Prop) (Ix:World->Prop) (hIg:∀k G A B,I k G A->Tx (w.heap.size+1) A B->I k G B) (hXg:∀A B,Ix A->Tx (w.heap.size+1) A B->Ix B) (h0:I s0 (fun _=>False) w)
  (hround:∀(l:Nat) (s s':σ) (G:Nat->Prop) (W0 W1:World) (xs:Array Value),I s G W0->w.heap.size+1<W0.heap.size->Tx (w.heap.size+2) W0 W1->X s s' W0 W1 xs->(∃r,W1.heap[w.heap.size+1]? = some (.loop r)) →
   assign.wpIn (Fence.wide.inRound l) 0 P (Exit.then (fun a1 Wa=>W1.grownBy Wa none/\∀r,body.wpIn (Fence.wide.inRound l) 0 P (roundEndE id w.heap.size Fw I Ix s' G xs W1 (Wa.putObj (w.heap.size+1) (.loop r))) a1 (Wa.putObj (w.heap.size+1) (.loop r))) (fun _ _ _=>False))
    { tmps:=(ps.zip xs).foldl (fun t (p,v)=>t.setIfInBounds p v) a.tmps,defers:=[] } W1)
  (hdone:∀(W:World) (s:σ) (G:Nat->Prop),Fin s->I s G W->W.heap[w.heap.size]? = some (.deferred (some []))->Q .normal { a with defers:={ target:=.collected w.heap.size,args:=#[] } :: a.defers } W)
  (hstop:∀(W:World),Ix W->W.heap[w.heap.size]? = some (.deferred (some []))->(Code.exit id).wp P Q { a with defers:={ target:=.collected w.heap.size,args:=#[] } :: a.defers } W) :
  (Code.rangeFunc g ps assign body).wp P Q a w:=by
 refine (wpIn_wide (n:=0)).1 (wpIn_rangeFunc ?_)
 intro fn _
 generalize hS:w.heap.size=S at *
 obtain ⟨rec,hrec⟩:∃rec:LoopState->Option Code->Loop,rec=fun st pe=>{ state:=st,pending:=pe,fn,tmps:=a.tmps,params:=ps,assign,body,defers:=S }:=⟨_,rfl⟩
 obtain ⟨W1,hW1⟩:∃W1,(w.alloc (.deferred (some []))).alloc (.loop (rec .ready none))=W1:=⟨_,rfl⟩
 have hL1:W1.heap[S+1]? = some (.loop (rec .ready none)):=by
  rw [<-hW1,<-hS];have:=World.alloc_heap_new (w.alloc (.deferred (some []))) (.loop (rec .ready none));rwa [World.size_alloc] at this
 have hg1:w.grownBy W1 none:=by rw [<-hW1];exact grown_trans (World.grownBy_alloc _ _ _) (World.grownBy_alloc _ _ _)
 have hD1:W1.heap[S]? = some (.deferred (some [])):=by
  rw [<-hW1,<-hS];exact (Below.heap_alloc _ _ _ (by simp)).trans (World.alloc_heap_new w _)
 have hz1:W1.heap.size=S+2:=by rw [<-hW1,<-hS];simp
 refine ⟨S+1,[{ target:=.collected S,args:=#[] }],W1,{ target:=.fn (.func gf) lb,args:=#[.func (.yield (S+1)) #[] #[]] },W1,gf,
  #[.func (.yield (S+1)) #[] #[]] ++ lb,W1,?_,?_,fun _ _=>trivial,?_,fun e=>by simp [Fence.wide] at e,?_⟩
 ·rw [<-hW1,hrec,<-hS];exact run_enterLoop_outer _ _ _ _ _
 ·simp only [resolve,hg]
  simp [go_sem]
 ·simp [invoke,go_sem,eg]
 ·refine callsIn_wide.2 ((hseq (S+1) (fun k G W=>I k G W/\W.heap[S+1]? = some (.loop (rec .ready none))/\W.heap[S]? = some (.deferred (some [])))
   (fun W=>Ix W/\W.heap[S+1]? = some (.loop (rec .done (some (.exit id))))/\W.heap[S]? = some (.deferred (some []))) W1 hg1 ?_ ?_ ?_ ⟨hIg s0 _ w W1 h0 (Tx.of_grown hg1),hL1,hD1⟩).mono ?_)
  ·rintro k G A B ⟨hi,hl,hd⟩ ht
   rw [hz1] at ht
   have hlt:=(Array.getElem?_eq_some_iff.1 hl).1
   exact ⟨hIg _ _ _ _ hi (ht.mono (by omega)),(ht.block _ hlt (.inl (by omega))).trans hl,(ht.block _ (by omega) (.inl (by omega))).trans hd⟩
  ·rintro A B ⟨hi,hl,hd⟩ ht
   rw [hz1] at ht
   have hlt:=(Array.getElem?_eq_some_iff.1 hl).1
   exact ⟨hXg _ _ hi (ht.mono (by omega)),(ht.block _ hlt (.inl (by omega))).trans hl,(ht.block _ (by omega) (.inl (by omega))).trans hd⟩
  ·rintro s s' G W0 W xs ⟨hi,hl,hd⟩ hsz hgr hx
   rw [hz1] at hgr hsz ⊢
   rw [hS]
   have hlt0:S+1<W0.heap.size:=(Array.getElem?_eq_some_iff.1 hl).1
   have hlt:S+1<W.heap.size:=Nat.lt_of_lt_of_le hlt0 hgr.size
   have hlW:W.heap[S+1]? = some (.loop (rec .ready none)):=(hgr.block _ hlt0 (.inl (by omega))).trans hl
   have hdW:W.heap[S]? = some (.deferred (some [])):=(hgr.block _ (by omega) (.inl (by omega))).trans hd
   have hy:=run_yield (P:=P) (args:=xs) hlW (by rw [hrec];exact hps s s' W0 W xs hx)
   rw [hrec] at hy
   refine ⟨fn,_,assign,body,hy,roundIn_of_wpIn trivial ?_⟩
   clear hy
   refine wpIn_mono (hround (S+1) s s' G W0 W xs hi hlt0 hgr hx ⟨_,hlW⟩) ?_
   intro e a1 Wa hE
   cases e with
   | normal =>
    obtain ⟨hga,hb⟩:=hE
    have hla:Wa.heap[S+1]? = some (.loop (rec .ready none)):=(hga.block _ hlt (by simp)).trans hlW
    have hda:Wa.heap[S]? = some (.deferred (some [])):=(hga.block _ (by omega) (by simp)).trans hdW
    have hlta:S+1<Wa.heap.size:=(Array.getElem?_eq_some_iff.1 hla).1
    refine ⟨_,run_beginRound hla (by rw [hrec]),?_⟩
    have hl2:(Wa.putObj (S+1) (.loop { rec .ready none with state:=.busy })).heap[S+1]? = some (.loop { rec .ready none with state:=.busy }):=World.putObj_heap_same hlta
    have hd2:(Wa.putObj (S+1) (.loop { rec .ready none with state:=.busy })).heap[S]? = some (.deferred (some [])):=(World.putObj_heap_other (by omega)).trans hda
    refine wpIn_mono (hb { rec .ready none with state:=.busy }) ?_
    intro e2 a2 W' hp
    cases e2 with
    | normal =>
     obtain ⟨⟨k1,k2⟩,G',kn,k3,k4⟩:=hp
     have hl3:=k2.trans hl2
     have hr:=run_endRound (P:=P) none hl3
     rw [hrec] at hr
     have htn:Tx (S+1) W' (W'.putObj (S+1) (.loop (rec .ready none))):=Tx.put _ hl3 (Nat.le_refl _)
     refine ⟨_,_,hr,.inl ⟨rfl,G',fun i hi=>⟨(kn i hi).1,by simpa [World.putObj] using (kn i hi).2⟩,⟨?_,?_,?_⟩,?_⟩⟩
     ·have:=hIg _ _ _ _ k4 htn
      rw [hrec] at this
      exact this
     ·rw [World.putObj_heap_same (Array.getElem?_eq_some_iff.1 hl3).1]
      rw [hrec]
      rfl
     ·rw [World.putObj_heap_other (by omega)];exact k1.trans hd2
     ·refine ⟨Nat.le_trans k3.1 (by simp [World.putObj]),fun i hi hc hf hh hG=>?_⟩
      rw [World.putObj_heap_other (by omega)]
      exact k3.2 i hi hc hf hh hG
    | exit id' =>
     obtain ⟨rfl,⟨k1,k2⟩,k3,k4⟩:=hp
     have hl3:=k2.trans hl2
     have hr:=run_endRound (P:=P) (some (.exit id')) hl3
     rw [hrec] at hr
     have htn:Tx (S+1) W' (W'.putObj (S+1) (.loop (rec .done (some (.exit id'))))):=Tx.put _ hl3 (Nat.le_refl _)
     refine ⟨_,_,hr,.inr ⟨rfl,⟨?_,?_,?_⟩,?_⟩⟩
     rotate_right
     ·refine ⟨Nat.le_trans k3.1 (by simp [World.putObj]),fun i hi hc hf hh hG=>?_⟩
      rw [World.putObj_heap_other (by omega)]
      exact k3.2 i hi hc hf hh hG
     ·have:=hXg _ _ k4 htn
      rw [hrec] at this
      exact this
     ·rw [World.putObj_heap_same (Array.getElem?_eq_some_iff.1 hl3).1]
      rw [hrec]
      rfl
     ·rw [World.putObj_heap_other (by omega)];exact k1.trans hd2
    | _=>exact hp.elim
   | _=>exact hE.elim
  ·rintro e W2 ⟨⟨v,rfl⟩,(⟨s,G,hfin,hi,hl,hd⟩ | ⟨hi,hl,hd⟩)⟩
   ·refine ⟨none,_,by have:=run_endLoop (P:=P) hl (by rw [hrec];simp);rw [hrec] at this;exact this,hdone _ s G hfin ?_ ?_⟩
    ·exact hIg _ _ _ _ hi (Tx.put _ hl (Nat.le_refl _))
    ·rw [World.putObj_heap_other (by omega)];exact hd
   ·refine ⟨some (.exit id),_,by have:=run_endLoop (P:=P) hl (by rw [hrec];simp);rw [hrec] at this;exact this,wpIn_wide.2 (hstop _ ?_ ?_)⟩
    ·exact hXg _ _ hi (Tx.put _ hl (Nat.le_refl _))
    ·rw [World.putObj_heap_other (by omega)];exact hd
theorem wp_rangeB {σ:Type}{id:Nat}{P:Program}{g:Operand}{ps:Array Tmp}{assign body:Code}{K:Act->World->Prop}{Q:Exit->Act->World->Prop}{a:Act}{w:World}{gf:Nat}{lb:Array Value}
  (hg:a.eval g=.func (.func gf) #[] lb) (eg:∀args w,(callFunc gf args).run P w=.ok (.enter gf args) w)
  {s0:σ} {Fin:σ->Prop} {X:σ->σ->World->World->Array Value->Prop} {Fw:Nat->Prop} (hseq:GivesS P gf lb s0 Fin X Fw w) (hps:∀s s' W0 W1 xs,X s s' W0 W1 xs->xs.size=ps.size)
  (I:σ->(Nat->Prop)->World->Prop) (Ix:World->Prop) (hIg:∀k G A B,I k G A->Tx (w.heap.size+1) A B->I k G B) (hXg:∀A B,Ix A->Tx (w.heap.size+1) A B->Ix B) (h0:I s0 (fun _=>False) w)
  (hround:∀(l:Nat) (s s':σ) (G:Nat->Prop) (W0 W1:World) (xs:Array Value),I s G W0->w.heap.size+1<W0.heap.size->Tx (w.heap.size+2) W0 W1->X s s' W0 W1 xs->(∃r,W1.heap[w.heap.size+1]? = some (.loop r)) →
   assign.wpIn (Fence.wide.inRound l) 0 P (Exit.then (fun a1 Wa=>W1.grownBy Wa none/\∀r,body.wpIn (Fence.wide.inRound l) 0 P (roundEndE id w.heap.size Fw I Ix s' G xs W1 (Wa.putObj (w.heap.size+1) (.loop r))) a1 (Wa.putObj (w.heap.size+1) (.loop r))) (fun _ _ _=>False))
    { tmps:=(ps.zip xs).foldl (fun t (p,v)=>t.setIfInBounds p v) a.tmps,defers:=[] } W1)
  (Post:World->Prop) (hdone:∀(W:World) (s:σ) (G:Nat->Prop),Fin s->I s G W->Post W) (hstop:∀(W:World),Ix W->Post W)
  (hnext:∀(W:World),Post W->W.heap[w.heap.size]? = some (.deferred (some []))->K { a with defers:={ target:=.collected w.heap.size,args:=#[] } :: a.defers } W) :
  (Code.rangeFunc g ps assign body).wp P (Exit.inBlock id (Exit.then K Q)) a w:=by
 refine (wp_rangeE id hg eg hseq hps I Ix hIg hXg h0 hround ?_ ?_)
 ·intro W s G hs hI hd
  exact hnext W (hdone W s G hs hI) hd
 ·intro W hI hd
  refine wp_exit ?_
  have:=hnext W (hstop W hI) hd
  simpa [Exit.inBlock,Exit.then] using this
end Go.Proofs.YtanoabliahcbeaaGreat
