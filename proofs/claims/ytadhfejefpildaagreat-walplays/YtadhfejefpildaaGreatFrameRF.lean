import Derived.Test.YtadhfejefpildaaGreatDiskAll
import Derived.RangeFuncNested
import Derived.RangeFuncCalls
import Derived.RangeFuncLeaves
import Derived.OrdersIn
namespace Go.Proofs.YtadhfejefpildaaGreat.Frame
open Go.RowKit Disk
section
variable {P:Program} {o:Oper} {a:Act} {w:World} {next:Act->World->Prop} {Q:Exit->Act->World->Prop}
theorem eT {n:Nat}{row:String}{args:Array Value}{R:Value->World->Prop}(h:Rows P row args w R):RowsIn Fence.wide n P row args w R :=
 fun c cs _=>let ⟨v,w',r,s⟩:=h c cs;⟨v,w',r,stepsIn_wide.2 s⟩
theorem gG (l n:Nat){r:Result Next}(h:o.upon P a next Q r):o.uponIn (Fence.wide.inRound l) n P a next Q r:=by
 cases r with
 | ok x w' =>
  cases x with
  | enter f args=>exact ⟨fun e=>by simp [Fence.wide] at e,callsIn_wide.2 h⟩
  | row row args=>exact ⟨fun e=>by simp [Fence.wide] at e,eT h⟩
  | value v=>exact h
  | skip=>exact h
  | defer d=>exact h
  | _=>exact h.elim
 | halt x w' =>
  cases x with
  | panic v=>exact h
  | _=>exact h.elim
theorem da (l n:Nat)(hd:∀c,o.op≠.defer c)(h:o.wp P a w next Q):o.wpIn (Fence.wide.inRound l) n P a w next Q :=
 ⟨fun _ _=>trivial,by rw [Fence.inRound_round,Oper.semAt_some l _ _ hd];exact gG l n h⟩
def f_ (ops:List Oper):Bool:=ops.all fun o=>match o.op with
 | .defer _=>false
 | _=>true
theorem dM {ops:List Oper}(h:f_ ops=true){o:Oper}(ho:o ∈ ops):∀c,o.op≠.defer c:=by
 intro c e
 have:=(List.all_eq_true.1 h) o ho
 rw [e] at this
 exact absurd this (by simp)
theorem d9 (l n:Nat){ops:Array Oper}(hQ:¬LetsOut Q):∀(rest:List Oper) (a:Act) (w:World),(∀o ∈ rest,∀c,o.op≠.defer c)->wpList P ops Q rest a w->wpListIn (Fence.wide.inRound l) n P ops Q rest a w
 | [],a,w,_,h=>h
 | o :: rest,a,w,hd,h=>by
  unfold wpList at h
  unfold wpListIn
  have ih:=d9 l n hQ (ops:=ops) rest
  split
  ·rename_i hw
   rw [if_pos hw] at h
   rcases h with h | h
   ·refine da l n (hd o (by simp)) ?_
    have e:∀x y,wpList P ops Q rest x y->wpListIn (Fence.wide.inRound l) n P ops Q rest x y:=fun x y hx=>ih x y (fun o ho=>hd o (by simp [ho])) hx
    exact Oper.wp_mono e h
   ·exact absurd h.2 hQ
  ·rename_i hw
   rw [if_neg hw] at h
   exact ⟨fun _ _=>trivial,ih _ _ (fun o ho=>hd o (by simp [ho])) h⟩
theorem ma (l n:Nat){ops:Array Oper}(hQ:¬LetsOut Q){i:Nat}{K K':Act->World->Prop}(hd:∀o ∈ ops.toList,∀c,o.op≠.defer c)(hK:∀a w,K a w->K' a w)(h:wpOp P ops Q i K a w):wpOpIn (Fence.wide.inRound l) n P ops Q i K' a w:=by
 unfold wpOp at h
 unfold wpOpIn
 cases ho:ops[i]? with
 | none=>rw [ho] at h;exact hK _ _ h
 | some o =>
  rw [ho] at h
  have hm:o ∈ ops.toList:=by
   have:=Array.mem_of_getElem? ho
   simpa using this
  by_cases hw:Region.wanted o (yielded ops a.tmps)=true
  ·simp only [hw,if_true] at h ⊢
   rcases h with h | h
   ·exact da l n (hd o hm) (Oper.wp_mono hK h)
   ·exact absurd h.2 hQ
  ·simp only [hw] at h ⊢
   exact ⟨fun _ _=>trivial,hK _ _ h⟩
theorem aF {l n id:Nat}{ops:List Oper}(hQ:¬LetsOut Q)(hd:f_ ops=true)(h:wpList P ops.toArray Q ops a w):(Code.region id ops.toArray false).wpIn (Fence.wide.inRound l) n P Q a w :=
 wpIn_region_lit (d9 l n hQ ops a w (fun _ ho=>dM hd ho) h)
end
def Kept (Pb:Nat->Prop)(W1 W':World):Prop:=∀i,(Pb i\/i+1=W1.heap.size)->i<W1.heap.size->W'.heap[i]? = W1.heap[i]?
def oP (P:Program)(gf:Nat)(lb:Array Value)(N:Nat)(X:Nat->World->World->Array Value->Prop)(Pb:Nat->Prop)(w:World):Prop :=
 ∀(l:Nat) (J:Nat->World->Prop) (Jx:World->Prop) (W:World),w.grownBy W none →
  (∀k W0 W1 xs,k<N->J k W0->W0.grownBy W1 none->X k W0 W1 xs->YieldAt Fence.wide 0 P l xs W1 fun e W'=>(e=.returned (.bool true)/\J (k+1) W'/\Kept Pb W1 W')\/(e=.returned (.bool false)/\Jx W')) →
  J 0 W->Calls P gf (#[.func (.yield l) #[] #[]] ++ lb) W fun e W'=>(∃v,e=.returned v)/\((∃W0,J N W0/\W0.grownBy W' none)\/(∃W0,Jx W0/\W0.grownBy W' none))
def jD (S:Nat)(Pb:Nat->Prop)(I:Nat->World->Prop)(Ix:World->Prop)(k:Nat)(W1 W2:World):Exit->Act->World->Prop
 | .normal,_,W'=>(W'.heap[S]? = W2.heap[S]?/\W'.heap[S+1]? = W2.heap[S+1]?)/\Kept Pb W1 W'/\I (k+1) W'
 | .ret,_,W'=>(W'.heap[S]? = W2.heap[S]?/\W'.heap[S+1]? = W2.heap[S+1]?)/\Ix W'
 | _,_,_=>False
theorem ge (W:World)(l:Nat)(o:Obj):W.grownBy (W.putObj l o) (some l):=grownBy_putObj' W l o
theorem mb {P:Program}{g:Operand}{ps:Array Tmp}{assign body:Code}{Q:Exit->Act->World->Prop}{a:Act}{w:World}{gf:Nat}{lb:Array Value}
  (hg:a.eval g=.func (.func gf) #[] lb) (eg:∀args w,(callFunc gf args).run P w=.ok (.enter gf args) w)
  {N:Nat} {X:Nat->World->World->Array Value->Prop} {Pb:Nat->Prop} (hseq:oP P gf lb N X Pb w) (hPb:∀i,Pb i->i<w.heap.size) (hps:∀k W0 W1 xs,X k W0 W1 xs->xs.size=ps.size)
  (I:Nat->World->Prop) (Ix:World->Prop) (hIg:∀k W W',I k W->W.grownBy W' none->I k W') (hIp:∀k W o,I k W->I k (W.putObj (w.heap.size+1) o))
  (hXg:∀W W',Ix W->W.grownBy W' none->Ix W') (hXp:∀W o,Ix W->Ix (W.putObj (w.heap.size+1) o)) (h0:I 0 w)
  (hround:∀(l k:Nat) (W0 W1:World) (xs:Array Value),k<N->I k W0->w.heap.size+1<W0.heap.size->W0.grownBy W1 none->W0.heap.size<W1.heap.size->X k W0 W1 xs →
   assign.wpIn (Fence.wide.inRound l) 0 P (Exit.then (fun a1 Wa=>W1.grownBy Wa none/\∀o,body.wpIn (Fence.wide.inRound l) 0 P (jD w.heap.size Pb I Ix k W1 (Wa.putObj (w.heap.size+1) o)) a1 (Wa.putObj (w.heap.size+1) o)) (fun _ _ _=>False))
    { tmps:=(ps.zip xs).foldl (fun t (p,v)=>t.setIfInBounds p v) a.tmps,defers:=[] } W1)
  (hX1:∀k W0 W1 xs,X k W0 W1 xs->W0.heap.size<W1.heap.size)
  (hdone:∀(W:World),I N W->W.heap[w.heap.size]? = some (.deferred (some []))->Q .normal { a with defers:={ target:=.collected w.heap.size,args:=#[] } :: a.defers } W)
  (hstop:∀(W:World),Ix W->W.heap[w.heap.size]? = some (.deferred (some []))->Code.ret.wp P Q { a with defers:={ target:=.collected w.heap.size,args:=#[] } :: a.defers } W) :
  (Code.rangeFunc g ps assign body).wp P Q a w:=by
 refine (wpIn_wide (n:=0)).1 (wpIn_rangeFunc ?_)
 intro fn _
 generalize hS:w.heap.size=S at *
 obtain ⟨rec,hrec⟩:∃rec:LoopState->Option Code->Loop,rec=fun st pe=>{ state:=st,pending:=pe,fn,tmps:=a.tmps,params:=ps,assign,body,defers:=S }:=⟨_,rfl⟩
 obtain ⟨W1,hW1⟩:∃W1,(w.alloc (.deferred (some []))).alloc (.loop (rec .ready none))=W1:=⟨_,rfl⟩
 have hL1:W1.heap[S+1]? = some (.loop (rec .ready none)):=by
  rw [<-hW1,<-hS];have:=World.alloc_heap_new (w.alloc (.deferred (some []))) (.loop (rec .ready none));rwa [World.size_alloc] at this
 have hg1:w.grownBy W1 none:=by rw [<-hW1];exact aa (World.grownBy_alloc _ _ _) (World.grownBy_alloc _ _ _)
 have hD1:W1.heap[S]? = some (.deferred (some [])):=by
  rw [<-hW1,<-hS];exact (Below.heap_alloc _ _ _ (by simp)).trans (World.alloc_heap_new w _)
 refine ⟨S+1,[{ target:=.collected S,args:=#[] }],W1,{ target:=.fn (.func gf) lb,args:=#[.func (.yield (S+1)) #[] #[]] },W1,gf,
  #[.func (.yield (S+1)) #[] #[]] ++ lb,W1,?_,?_,fun _ _=>trivial,?_,fun e=>by simp [Fence.wide] at e,?_⟩
 ·rw [<-hW1,hrec,<-hS];exact run_enterLoop_outer _ _ _ _ _
 ·simp only [resolve,hg]
  simp [go_sem]
 ·simp [invoke,go_sem,eg]
 ·refine callsIn_wide.2 ((hseq (S+1) (fun k W=>I k W/\W.heap[S+1]? = some (.loop (rec .ready none))/\W.heap[S]? = some (.deferred (some [])))
   (fun W=>Ix W/\W.heap[S+1]? = some (.loop (rec .done (some .ret)))/\W.heap[S]? = some (.deferred (some []))) W1 hg1 ?_ ⟨hIg 0 w W1 h0 hg1,hL1,hD1⟩).mono ?_)
  ·rintro k W0 W xs hk ⟨hi,hl,hd⟩ hgr hx
   have hlt0:S+1<W0.heap.size:=(Array.getElem?_eq_some_iff.1 hl).1
   have hlt:S+1<W.heap.size:=Nat.lt_of_lt_of_le hlt0 hgr.size
   have hlW:W.heap[S+1]? = some (.loop (rec .ready none)):=(hgr.block _ hlt0 (by simp)).trans hl
   have hdW:W.heap[S]? = some (.deferred (some [])):=(hgr.block _ (by omega) (by simp)).trans hd
   have hy:=run_yield (P:=P) (args:=xs) hlW (by rw [hrec];exact hps k W0 W xs hx)
   rw [hrec] at hy
   refine ⟨fn,_,assign,body,hy,roundIn_of_wpIn trivial ?_⟩
   clear hy
   refine wpIn_mono (hround (S+1) k W0 W xs hk hi hlt0 hgr (hX1 k W0 W xs hx) hx) ?_
   intro e a1 Wa hE
   cases e with
   | normal =>
    obtain ⟨hga,hb⟩:=hE
    have hla:Wa.heap[S+1]? = some (.loop (rec .ready none)):=(hga.block _ hlt (by simp)).trans hlW
    have hda:Wa.heap[S]? = some (.deferred (some [])):=(hga.block _ (by omega) (by simp)).trans hdW
    have hlta:S+1<Wa.heap.size:=(Array.getElem?_eq_some_iff.1 hla).1
    refine ⟨_,run_beginRound hla (by rw [hrec]),?_⟩
    have hl2:(Wa.putObj (S+1) (.loop { rec .ready none with state:=.busy })).heap[S+1]? = some (.loop { rec .ready none with state:=.busy }):=World.putObj_heap_same hlta
    have hd2:(Wa.putObj (S+1) (.loop { rec .ready none with state:=.busy })).heap[S]? = some (.deferred (some [])):=(World.putObj_heap_other (by omega)).trans hda
    refine wpIn_mono (hb (.loop { rec .ready none with state:=.busy })) ?_
    intro e2 a2 W' hp
    cases e2 with
    | normal =>
     obtain ⟨⟨k1,k2⟩,k3,k4⟩:=hp
     have hl3:=k2.trans hl2
     have hr:=run_endRound (P:=P) none hl3
     rw [hrec] at hr
     refine ⟨_,_,hr,.inl ⟨rfl,⟨hIp _ _ _ k4,?_,?_⟩,?_⟩⟩
     ·rw [World.putObj_heap_same (Array.getElem?_eq_some_iff.1 hl3).1]
      rw [hrec];rfl
     ·rw [World.putObj_heap_other (by omega)];exact k1.trans hd2
     ·intro i hi hilt
      have hne:i≠S+1:=by
       rcases hi with hi | hi
       ·have:=hPb i hi;omega
       ·have:=hX1 k W0 W xs hx;omega
      rw [World.putObj_heap_other hne]
      exact k3 i hi hilt
    | ret =>
     obtain ⟨⟨k1,k2⟩,k4⟩:=hp
     have hl3:=k2.trans hl2
     have hr:=run_endRound (P:=P) (some .ret) hl3
     rw [hrec] at hr
     refine ⟨_,_,hr,.inr ⟨rfl,hXp _ _ k4,?_,?_⟩⟩
     ·rw [World.putObj_heap_same (Array.getElem?_eq_some_iff.1 hl3).1]
      rw [hrec];rfl
     ·rw [World.putObj_heap_other (by omega)];exact k1.trans hd2
    | _=>exact hp.elim
   | _=>exact hE.elim
  ·rintro e W2 ⟨⟨v,rfl⟩,(⟨W0,⟨hi,hl,hd⟩,hgr⟩ | ⟨W0,⟨hi,hl,hd⟩,hgr⟩)⟩
   ·have hl2:W2.heap[S+1]? = some (.loop (rec .ready none)):=(hgr.block _ (Array.getElem?_eq_some_iff.1 hl).1 (by simp)).trans hl
    have hd2:W2.heap[S]? = some (.deferred (some [])):=(hgr.block _ (Array.getElem?_eq_some_iff.1 hd).1 (by simp)).trans hd
    refine ⟨none,_,by have:=run_endLoop (P:=P) hl2 (by rw [hrec];simp);rw [hrec] at this;exact this,hdone _ (hIp _ _ _ (hIg _ _ _ hi hgr)) ?_⟩
    rw [World.putObj_heap_other (by omega)];exact hd2
   ·have hl2:W2.heap[S+1]? = some (.loop (rec .done (some .ret))):=(hgr.block _ (Array.getElem?_eq_some_iff.1 hl).1 (by simp)).trans hl
    have hd2:W2.heap[S]? = some (.deferred (some [])):=(hgr.block _ (Array.getElem?_eq_some_iff.1 hd).1 (by simp)).trans hd
    refine ⟨some .ret,_,by have:=run_endLoop (P:=P) hl2 (by rw [hrec];simp);rw [hrec] at this;exact this,wpIn_wide.2 (hstop _ (hXp _ _ (hXg _ _ hi hgr)) ?_)⟩
    rw [World.putObj_heap_other (by omega)];exact hd2
theorem di {P:Program}{f:FuncId}{fn:Func}{c:Code}{args:Array Value}{w:World}{R:Ending->World->Prop}(hf:P.funcs[f]? = some fn)(hb:fn.body=some c)
  (h:c.wp P (bodyPostM Fence.wide 0 P fn R) { tmps:=args ++ Array.replicate (fn.ntmps-args.size) undef,defers:=[] } w):Calls P f args w R :=
 callsIn_wide.1 (callsIn_of_wp_marks hf hb trivial (wpIn_wide.2 h))
end Go.Proofs.YtadhfejefpildaaGreat.Frame
