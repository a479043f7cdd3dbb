import Derived.Test.YtanoabliahcbeaaGreatDiskAll
import Derived.RangeFuncNested
import Derived.RangeFuncCalls
import Derived.RangeFuncLeaves
import Derived.OrdersIn
import Derived.Scope
namespace Go.Proofs.YtanoabliahcbeaaGreat.Table
open Go.RowKit Disk
section
variable {P:Program} {o:Oper} {a:Act} {w:World} {next:Act->World->Prop} {Q:Exit->Act->World->Prop}
theorem rows_wide {n:Nat}{row:String}{args:Array Value}{R:Value->World->Prop}(h:Go.Rows P row args w R):RowsIn Fence.wide n P row args w R :=
 fun c cs _=>let ⟨v,w',r,s⟩:=h c cs;⟨v,w',r,stepsIn_wide.2 s⟩
theorem upon_round (l n:Nat){r:Result Next}(h:o.upon P a next Q r):o.uponIn (Fence.wide.inRound l) n P a next Q r:=by
 cases r with
 | ok x w' =>
  cases x with
  | enter f args=>exact ⟨fun e=>by simp [Fence.wide] at e,callsIn_wide.2 h⟩
  | row row args=>exact ⟨fun e=>by simp [Fence.wide] at e,rows_wide h⟩
  | value v=>exact h
  | skip=>exact h
  | defer d=>exact h
  | _=>exact h.elim
 | halt x w' =>
  cases x with
  | panic v=>exact h
  | _=>exact h.elim
theorem oper_round (l n:Nat)(hd:∀c,o.op≠.defer c)(h:o.wp P a w next Q):o.wpIn (Fence.wide.inRound l) n P a w next Q :=
 ⟨fun _ _=>trivial,by rw [Fence.inRound_round,Oper.semAt_some l _ _ hd];exact upon_round l n h⟩
theorem oper_wide (n:Nat)(h:o.wp P a w next Q):o.wpIn Fence.wide n P a w next Q:=by
 refine ⟨fun _ _=>trivial,?_⟩
 rw [Fence.wide_round,Oper.semAt_none]
 unfold Oper.wp at h
 generalize (execOp a.eval o).run P w=r at *
 cases r with
 | ok x w' =>
  cases x with
  | enter f args=>exact ⟨fun e=>by simp [Fence.wide] at e,callsIn_wide.2 h⟩
  | row row args=>exact ⟨fun e=>by simp [Fence.wide] at e,rows_wide h⟩
  | value v=>exact h
  | skip=>exact h
  | defer d=>exact h
  | _=>exact h.elim
 | halt x w' =>
  cases x with
  | panic v=>exact h
  | _=>exact h.elim
theorem yield_wide {l:Nat}{f:Operand}{xs ys:Operand}{x y:Value}{ts:Array TypeId}{R:Ending->World->Prop}(hy:YieldAt Fence.wide 0 P l #[x,y] w R)(ho:o.op=.call { callee:=.value f,args:=#[xs,ys],argTypes:=ts })(hf:a.eval f=.func (.yield l) #[] #[])(hx:a.eval xs=x)(hys:a.eval ys=y)
  (h:∀e w',R e w'->∃v,e=.returned v/\next (a.put o.dst v) w'):o.wpIn Fence.wide 0 P a w next Q:=by
 obtain ⟨fn,tmps,assign,body,hr,hR⟩:=hy
 refine ⟨fun _ _=>trivial,?_⟩
 rw [Fence.wide_round,Oper.semAt_none]
 have e:(execOp a.eval o).run P w=.ok (.round l fn tmps assign body) w:=by
  simp only [execOp,ho,resolve,invoke,Sem.run_bind,List.map_toArray,List.map_cons,List.map_nil,hf,hx,hys]
  exact hr
 rw [e,Oper.uponIn_round]
 refine ⟨fun e=>by simp [Fence.wide] at e,hR.mono ?_⟩
 intro e w' he
 obtain ⟨v,rfl,hn⟩:=h e w' he
 exact hn
def noDefer (ops:List Oper):Bool:=ops.all fun o=>match o.op with
 | .defer _=>false
 | _=>true
theorem noDefer_spec {ops:List Oper}(h:noDefer ops=true){o:Oper}(ho:o ∈ ops):∀c,o.op≠.defer c:=by
 intro c e
 have:=(List.all_eq_true.1 h) o ho
 rw [e] at this
 exact absurd this (by simp)
theorem list_round (l n:Nat){ops:Array Oper}(hQ:¬LetsOut Q):∀(rest:List Oper) (a:Act) (w:World),(∀o ∈ rest,∀c,o.op≠.defer c)->wpList P ops Q rest a w->wpListIn (Fence.wide.inRound l) n P ops Q rest a w
 | [],a,w,_,h=>h
 | o :: rest,a,w,hd,h=>by
  unfold wpList at h
  unfold wpListIn
  have ih:=list_round l n hQ (ops:=ops) rest
  split
  ·rename_i hw
   rw [if_pos hw] at h
   rcases h with h | h
   ·refine oper_round l n (hd o (by simp)) ?_
    have e:∀x y,wpList P ops Q rest x y->wpListIn (Fence.wide.inRound l) n P ops Q rest x y:=fun x y hx=>ih x y (fun o ho=>hd o (by simp [ho])) hx
    exact Oper.wp_mono e h
   ·exact absurd h.2 hQ
  ·rename_i hw
   rw [if_neg hw] at h
   exact ⟨fun _ _=>trivial,ih _ _ (fun o ho=>hd o (by simp [ho])) h⟩
theorem op_round (l n:Nat){ops:Array Oper}(hQ:¬LetsOut Q){i:Nat}{K K':Act->World->Prop}(hd:∀o ∈ ops.toList,∀c,o.op≠.defer c)(hK:∀a w,K a w->K' a w)(h:wpOp P ops Q i K a w):wpOpIn (Fence.wide.inRound l) n P ops Q i K' a w:=by
 unfold wpOp at h
 unfold wpOpIn
 cases ho:ops[i]? with
 | none=>rw [ho] at h;exact hK _ _ h
 | some o =>
  rw [ho] at h
  have hm:o ∈ ops.toList:=by
   have:=Array.mem_of_getElem? ho
   simpa using this
  by_cases hw:Region.wanted o (yielded ops a.tmps)=true
  ·simp only [hw,if_true] at h ⊢
   rcases h with h | h
   ·exact oper_round l n (hd o hm) (Oper.wp_mono hK h)
   ·exact absurd h.2 hQ
  ·simp only [hw] at h ⊢
   exact ⟨fun _ _=>trivial,hK _ _ h⟩
theorem any_round (l n:Nat){md:Region.Mode}{ops:Array Oper}(hQ:¬LetsOut Q)(hd:∀o ∈ ops.toList,∀c,o.op≠.defer c):∀(fuel:Nat) (listed:Array Bool) (a:Act) (w:World),wpAny P md ops Q fuel listed a w->wpAnyIn (Fence.wide.inRound l) n P md ops Q fuel listed a w
 | 0,_listed,_a,_w,h=>h
 | fuel+1,_listed,_a,_w,h=>⟨h.1,fun i hi=>op_round l n hQ hd (fun a w=>any_round l n hQ hd fuel _ a w) (h.2 i hi)⟩
theorem region_round {l n id:Nat}{ops:List Oper}(hQ:¬LetsOut Q)(hd:noDefer ops=true)(h:wpList P ops.toArray Q ops a w):(Code.region id ops.toArray false).wpIn (Fence.wide.inRound l) n P Q a w :=
 wpIn_region_lit (list_round l n hQ ops a w (fun _ ho=>noDefer_spec hd ho) h)
theorem region_round_hold (z:Nat)(H:World->Prop){l n id:Nat}{ops:Array Oper}(hQ:¬LetsOut Q)(hd:noDefer ops.toList=true)(hm:P.follows .mixedOrders=true)(h:wpHold P z H .any ops Q ops.size (Array.replicate ops.size false) a w.drew):(Code.region id ops true).wpIn (Fence.wide.inRound l) n P Q a w :=
 wpIn_region_any hm (any_round l n hQ (fun _ ho=>noDefer_spec hd ho) _ _ _ _ (wpAny_of_hold _ _ _ _ h))
end
section
variable {P:Program} {ops:Array Oper} {Q:Exit->Act->World->Prop} {md:Region.Mode} {H:World->Prop} {z:Nat} {Y:(Act->World->Prop)->Act->World->Prop}
end
structure Tn (n0:Nat)(W W':World):Prop where
 os:W'.os=W.os
 tape:W'.tape=W.tape
 output:W'.output=W.output
 size:W.heap.size<=W'.heap.size
 block:∀i,i<W.heap.size->(i<n0\/∃c t z,W.heap[i]? = some (.cells c t z))->W'.heap[i]? = W.heap[i]?
theorem Tn.refl (n0:Nat)(W:World):Tn n0 W W:=⟨rfl,rfl,rfl,Nat.le_refl _,fun _ _ _=>rfl⟩
theorem Tn.of_grown {n0:Nat}{W W':World}(h:W.grownBy W' none):Tn n0 W W':=⟨h.os,h.tape,h.output,h.size,fun i hi _=>h.block i hi (by simp)⟩
theorem Tn.trans {n0:Nat}{A B C:World}(h:Tn n0 A B)(k:Tn n0 B C):Tn n0 A C :=
 ⟨k.os.trans h.os,k.tape.trans h.tape,k.output.trans h.output,Nat.le_trans h.size k.size,fun i hi hc=>by
  have h1:=h.block i hi hc
  refine (k.block i (Nat.lt_of_lt_of_le hi h.size) ?_).trans h1
  rcases hc with hc | ⟨c,t,z,hc⟩
  ·exact .inl hc
  ·exact .inr ⟨c,t,z,h1.trans hc⟩⟩
theorem Tn.mono {n0 n1:Nat}{A B:World}(h:Tn n1 A B)(hn:n0<=n1):Tn n0 A B:=⟨h.os,h.tape,h.output,h.size,fun i hi hc=>h.block i hi (by rcases hc with hc | hc;exact .inl (by omega);exact .inr hc)⟩
theorem Tn.put {n0:Nat}{W:World}{b:Nat}{r:Loop}(o:Obj)(hb:W.heap[b]? = some (.loop r))(hn:n0<=b):Tn n0 W (W.putObj b o) :=
 ⟨rfl,rfl,rfl,by simp [World.putObj],fun i _ hc=>by
  have hne:i≠b:=fun e=>by
   subst e
   rcases hc with hc | ⟨c,t,z,hc⟩
   ·omega
   ·rw [hb] at hc;cases hc
  exact World.putObj_heap_other hne⟩
theorem Tn.putD {n0:Nat}{W:World}{b:Nat}{d:Option (List Deferred)}(o:Obj)(hb:W.heap[b]? = some (.deferred d))(hn:n0<=b):Tn n0 W (W.putObj b o) :=
 ⟨rfl,rfl,rfl,by simp [World.putObj],fun i _ hc=>by
  have hne:i≠b:=fun e=>by
   subst e
   rcases hc with hc | ⟨c,t,z,hc⟩
   ·omega
   ·rw [hb] at hc;cases hc
  exact World.putObj_heap_other hne⟩
theorem Tn.blk {n0:Nat}{W W':World}(h:Tn n0 W W'){b t:Nat}{c:Array Value}(hb:Blk W b t c):Blk W' b t c:=(h.block b hb.lt (.inr ⟨_,_,_,hb⟩)).trans hb
theorem Tn.cell {n0:Nat}{W W':World}(h:Tn n0 W W'){b j:Nat}{v:Value}(hc:W.cell? ⟨b,j,none⟩=some v):W'.cell? ⟨b,j,none⟩=some v:=by
 unfold World.cell? at hc ⊢
 cases hb:W.heap[b]? with
 | none=>simp [hb] at hc
 | some o =>
  cases o with
  | cells c t z =>
   have:=h.block b (Array.getElem?_eq_some_iff.1 hb).1 (.inr ⟨_,_,_,hb⟩)
   simp only [this]
   exact hc
  | _=>simp [hb] at hc
theorem Tn.seg {n0:Nat}{W W':World}(h:Tn n0 W W'){v:Value}{L:List UInt8}(hs:Seg W v L):Seg W' v L:=hs.of_cells fun _ _ _ hx=>h.cell hx
theorem Tn.own {n0:Nat}{W W':World}(h:Tn n0 W W'){B:Nat}{v:Value}{L:List UInt8}(hs:Disk.Own W B v L):Disk.Own W' B v L:=hs.same fun k hk=>by
 rcases hs.2 with ⟨e,_⟩ | ⟨g,cap,cur,e,_,hg,_⟩
 ·rw [e] at hk;simp [Value.ownBlock] at hk
 ·rw [e] at hk
  simp [Value.ownBlock] at hk
  subst hk
  exact h.block g (Array.getElem?_eq_some_iff.1 hg).1 (.inr ⟨_,_,_,hg⟩)
def Handed (xs:Array Value)(i:Nat):Prop:=∃v ∈ xs,v.ownBlock=some i
theorem calls_marks {P:Program}{f:FuncId}{fn:Func}{c:Code}{args:Array Value}{w:World}{R:Ending->World->Prop}(hf:P.funcs[f]? = some fn)(hb:fn.body=some c)
  (h:c.wp P (bodyPostM Fence.wide 0 P fn R) { tmps:=args ++ Array.replicate (fn.ntmps-args.size) undef,defers:=[] } w):Calls P f args w R :=
 callsIn_wide.1 (callsIn_of_wp_marks hf hb trivial (wpIn_wide.2 h))
end Go.Proofs.YtanoabliahcbeaaGreat.Table
