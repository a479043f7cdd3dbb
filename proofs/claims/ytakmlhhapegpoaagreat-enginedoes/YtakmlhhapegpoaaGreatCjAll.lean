import Derived.Deep.AppendLies
import Derived.Test.YtakmlhhapegpoaaGreatCeAll
import Derived.Deep.DeepCutAuto
import Derived.Laws.OwnMore
set_option maxHeartbeats 8000000
set_option maxRecDepth 100000
namespace Go.Proofs.YtakmlhhapegpoaaGreat.Calls
open Go.RowKit Disk
open Names (Str)
theorem blk_type {w:World}{b t t':Nat}{c c':Array Value}(h:Blk w b t c)(h':Blk w b t' c'):t=t':=by
 unfold Blk at h h'
 rw [h] at h'
 simp at h'
 exact h'.2
theorem own_set {w w':World}{B x t:Nat}{c:Array Value}{v:Value}{L:Bs}(h:Own w B v L)(hx:Blk w x t c)(ht:t≠5)(hg:w.grownBy w' (some x)):Own w' B v L :=
 h.same fun k hk=>hg.block k (h.lt k hk).2 (fun e=>h.other hx ht (by rw [hk,e]))
section
variable {α:Type}
def LRow (t c:Nat)(R:World->List Value->α->Prop)(w:World)(B:Nat)(v:Value)(l:List α):Prop :=
 ∃vs:List (List Value),w.ownsRow B t c v l.length vs.flatten/\vs.length=l.length/\(∀x ∈ vs,x.length=c)/\∀j (h:j<vs.length) (h':j<l.length),R w vs[j] l[j]
def Stab (T:Nat->Prop)(R:World->List Value->α->Prop):Prop:=(∀w w' vs x,R w vs x->w.grownBy w' none->R w' vs x)/\(∀w w' vs x g t cur,R w vs x->Blk w g t cur->¬T t->w.grownBy w' (some g)->R w' vs x)
variable {t c:Nat} {R:World->List Value->α->Prop} {T:Nat->Prop}
theorem lrow_nil (w:World)(B:Nat):LRow t c R w B (.slice none 0 0) []:=⟨[],World.ownsRow_nil _ _ _ _,rfl,by simp,fun j h=>absurd h (by simp)⟩
theorem owns_grown {w w':World}{B n:Nat}{v:Value}{xs:List Value}(h:w.ownsRow B t c v n xs)(hg:w.grownBy w' none):w'.ownsRow B t c v n xs:=h.kept hg (by cases v.ownBlock <;> simp)
theorem owns_blk {w:World}{B n:Nat}{v:Value}{xs:List Value}(h:w.ownsRow B t c v n xs){k:Nat}(hk:v.ownBlock=some k):∃cur,Blk w k t cur:=by
 rcases h.2 with ⟨rfl,_⟩ | ⟨g,cp,cur,e,hb,hg,_⟩
 ·simp [Value.ownBlock] at hk
 ·subst e
  simp [Value.ownBlock] at hk
  subst hk
  exact ⟨cur,hg⟩
theorem owns_set {w w':World}{B n x t':Nat}{v:Value}{xs:List Value}{cc:Array Value}(h:w.ownsRow B t c v n xs)(hx:Blk w x t' cc)(ht:t'≠t)(hg:w.grownBy w' (some x)):w'.ownsRow B t c v n xs:=by
 refine h.kept hg ?_
 cases hv:v.ownBlock with
 | none=>simp
 | some k =>
  obtain ⟨cur,hb⟩:=owns_blk h hv
  refine .inr fun e=>?_
  simp at e
  subst e
  exact ht (blk_type hx hb)
theorem LRow.grown {w w':World}{B:Nat}{v:Value}{l:List α}(h:LRow t c R w B v l)(hs:Stab T R)(hg:w.grownBy w' none):LRow t c R w' B v l:=by
 obtain ⟨vs,h1,h2,h3,h4⟩:=h
 exact ⟨vs,owns_grown h1 hg,h2,h3,fun j hj hj'=>hs.1 _ _ _ _ (h4 j hj hj') hg⟩
theorem LRow.set {w w':World}{B x t':Nat}{v:Value}{l:List α}{cc:Array Value}(h:LRow t c R w B v l)(hs:Stab T R)(hx:Blk w x t' cc)(ht:t'≠t)(hT:¬T t')(hg:w.grownBy w' (some x)):LRow t c R w' B v l:=by
 obtain ⟨vs,h1,h2,h3,h4⟩:=h
 exact ⟨vs,owns_set h1 hx ht hg,h2,h3,fun j hj hj'=>hs.2 _ _ _ _ _ _ _ (h4 j hj hj') hx hT hg⟩
theorem LRow.shape {w:World}{B:Nat}{v:Value}{l:List α}(h:LRow t c R w B v l):∃x y,v=.slice x l.length y:=by
 obtain ⟨vs,h1,_⟩:=h
 rcases h1.2 with ⟨rfl,h0⟩ | ⟨g,cap,cur,rfl,_⟩
 ·exact ⟨none,0,by rw [h0]⟩
 ·exact ⟨_,_,rfl⟩
theorem LRow.lt {w:World}{B:Nat}{v:Value}{l:List α}(h:LRow t c R w B v l):∀k,v.ownBlock=some k->B<=k/\k<w.heap.size:=by
 obtain ⟨vs,h1,_⟩:=h
 exact fun k hk=>World.ownsRow.lt h1 k hk
theorem LRow.mono {w:World}{B B':Nat}{v:Value}{l:List α}(h:LRow t c R w B v l)(hB:B'<=B):LRow t c R w B' v l:=by
 obtain ⟨vs,h1,h2⟩:=h
 refine ⟨vs,⟨h1.1,?_⟩,h2⟩
 rcases h1.2 with h0 | ⟨g,cap,cur,e,hb,hg⟩
 ·exact .inl h0
 ·exact .inr ⟨g,cap,cur,e,by omega,hg⟩
theorem LRow.snoc {w w':World}{B:Nat}{v v':Value}{vs:List (List Value)}{l:List α}{x:List Value}{a:α}(hs:Stab T R)(hT:¬T t)(h1:w.ownsRow B t c v l.length vs.flatten)(h2:vs.length=l.length)(h3:∀x ∈ vs,x.length=c)(h4:∀j (h:j<vs.length) (h':j<l.length),R w vs[j] l[j])
  (hx:x.length=c) (ha:R w x a) (hg:w.grownBy w' v.ownBlock) (hr:w'.ownsRow B t c v' (l.length+1) (vs.flatten ++ x)):LRow t c R w' B v' (l ++ [a]):=by
 have keep:∀{y b},R w y b->R w' y b:=by
  intro y b hy
  cases hv:v.ownBlock with
  | none=>rw [hv] at hg;exact hs.1 _ _ _ _ hy hg
  | some k =>
   rw [hv] at hg
   obtain ⟨cur,hb⟩:=owns_blk h1 hv
   exact hs.2 _ _ _ _ _ _ _ hy hb hT hg
 refine ⟨vs ++ [x],by simpa using hr,by simp [h2],?_,fun j hj hj'=>?_⟩
 ·intro y hy
  simp at hy
  rcases hy with hy | rfl
  ·exact h3 y hy
  ·exact hx
 ·by_cases hlt:j<vs.length
  ·rw [List.getElem_append_left hlt,List.getElem_append_left (by omega)]
   exact keep (h4 j hlt (by omega))
  ·have e1:j=vs.length:=by simp at hj;omega
   subst e1
   have e2:(vs ++ [x])[vs.length]=x:=by simp
   have e3:(l ++ [a])[vs.length]'hj'=a:=by simp [h2]
   rw [e2,e3]
   exact keep ha
theorem flatten_get {c:Nat}:∀(vs:List (List Value)) (j i:Nat) (_h3:∀x ∈ vs,x.length=c) (hj:j<vs.length) (_hi:i<c),vs.flatten[j*c+i]? = vs[j][i]?
 | [],j,i,_,hj,_=>absurd hj (by simp)
 | x :: vs,0,i,h3,_,hi=>by
  have hx:=h3 x (by simp)
  simp only [List.flatten_cons,Nat.zero_mul,Nat.zero_add,List.getElem_cons_zero]
  rw [List.getElem?_append_left (by omega)]
 | x :: vs,j+1,i,h3,hj,hi=>by
  have hx:=h3 x (by simp)
  simp only [List.flatten_cons,List.getElem_cons_succ]
  rw [List.getElem?_append_right (by rw [hx,Nat.add_mul];omega)]
  have:=flatten_get vs j i (fun y hy=>h3 y (by simp [hy])) (by simpa using hj) hi
  rw [<-this]
  congr 1
  rw [hx,Nat.add_mul];omega
theorem LRow.cell {w:World}{B:Nat}{v:Value}{l:List α}(h:LRow t c R w B v l)(j:Nat)(hj:j<l.length):∃g cap x,v=.slice (some ⟨g,0,none⟩) l.length cap/\x.length=c/\R w x l[j]/\B<=g/\Blk w g t (w.heap[g]?.map (fun o=>match o with | .cells cs _ _=>cs | _=>#[])|>.getD #[])/\∀i (_hi:i<c),w.cell? ⟨g,j*c+i,none⟩=x[i]?:=by
 obtain ⟨vs,h1,h2,h3,h4⟩:=h
 rcases h1.2 with ⟨_,h0⟩ | ⟨g,cap,cur,e,hb,hg,q1,q2,q3,q4⟩
 ·omega
 ·have hr:w.ownsRow B t c (.slice (some ⟨g,0,none⟩) l.length cap) l.length vs.flatten:=by rw [<-e];exact h1
  refine ⟨g,cap,vs[j]'(by omega),e,h3 _ (List.getElem_mem _),h4 j (by omega) hj,hb,by rw [hg];exact hg,fun i hi=>?_⟩
  have hlt:j*c+i<l.length*c:=by
   have:(j+1)*c<=l.length*c:=Nat.mul_le_mul_right c (by omega)
   rw [Nat.add_mul] at this;omega
  rw [hr.cellAt (j*c+i) hlt]
  exact flatten_get vs j i h3 (by omega) hi
end
theorem cut_slice {w:World}{B:Nat}{v:Value}{L:Bs}(h:Names.Cut w B v L):∃x n y,v=.slice x n y:=by obtain ⟨x,y,e⟩:=h.seg.shape;exact ⟨x,_,y,e⟩
theorem cut_set {w w':World}{B x t:Nat}{c:Array Value}{v:Value}{L:Bs}(h:Names.Cut w B v L)(hx:Blk w x t c)(ht:t≠5)(hg:w.grownBy w' (some x)):Names.Cut w' B v L:=by
 rcases h with h | ⟨g,cap,rfl,h⟩
 ·exact .inl (own_set h hx ht hg)
 ·exact .inr ⟨g,cap,rfl,own_set h hx ht hg⟩
structure OpOwn (w:World)(B:Nat)(k v ol t:Value)(o:POp):Prop where
 key:Names.Cut w B k o.key
 value:Names.Cut w B v o.value
 old:Names.Cut w B ol o.old
 tos:Names.Cut w B t o.to
 fits:OpIn o
theorem OpOwn.seg {w:World}{B:Nat}{k v ol t:Value}{o:POp}(h:OpOwn w B k v ol t o):OpSeg w k v ol t o:=⟨h.key.seg,h.value.seg,h.old.seg,h.tos.seg,h.fits⟩
theorem OpOwn.grown {w w':World}{B:Nat}{k v ol t:Value}{o:POp}(h:OpOwn w B k v ol t o)(hg:w.grownBy w' none):OpOwn w' B k v ol t o:=⟨h.key.grown hg,h.value.grown hg,h.old.grown hg,h.tos.grown hg,h.fits⟩
theorem OpOwn.mono {w:World}{B B':Nat}{k v ol t:Value}{o:POp}(h:OpOwn w B k v ol t o)(hB:B'<=B):OpOwn w B' k v ol t o:=⟨h.key.mono hB,h.value.mono hB,h.old.mono hB,h.tos.mono hB,h.fits⟩
theorem OpOwn.set {w w':World}{B x t':Nat}{c:Array Value}{k v ol t:Value}{o:POp}(h:OpOwn w B k v ol t o)(hx:Blk w x t' c)(ht:t'≠5)(hg:w.grownBy w' (some x)):OpOwn w' B k v ol t o :=
 ⟨cut_set h.key hx ht hg,cut_set h.value hx ht hg,cut_set h.old hx ht hg,cut_set h.tos hx ht hg,h.fits⟩
def OpR (B:Nat)(w:World)(x:List Value)(o:POp):Prop:=∃k v ol t,x=[.int .i64 o.kind,Str o.table,k,v,.bool o.has,ol,t,.int .i64 o.most]/\OpOwn w B k v ol t o
theorem opR_stab (B:Nat):Stab (fun t=>t=5) (OpR B):=by
 refine ⟨fun w w' vs x h hg=>?_,fun w w' vs x g t cur h hb ht hg=>?_⟩
 ·obtain ⟨k,v,ol,t,e,h⟩:=h
  exact ⟨k,v,ol,t,e,h.grown hg⟩
 ·obtain ⟨k,v,ol,t',e,h⟩:=h
  exact ⟨k,v,ol,t',e,h.set hb ht hg⟩
def OpsOwn (w:World)(B:Nat)(v:Value)(l:List POp):Prop:=LRow 67 8 (OpR B) w B v l/\l.length<=1099511627776
theorem OpsOwn.ops {w:World}{B:Nat}{v:Value}{l:List POp}(h:OpsOwn w B v l):Ops w v l:=by
 obtain ⟨h,hl⟩:=h
 obtain ⟨x,y,e⟩:=h.shape
 refine ⟨x,y,e,hl,fun j hj=>?_⟩
 obtain ⟨g,cap,cs,e2,hlen,⟨k,v',ol,t,rfl,ho⟩,_,_,hc⟩:=h.cell j hj
 rw [e] at e2
 simp at e2
 refine ⟨g,0,k,v',ol,t,e2.1,?_,ho.seg⟩
 rw [Nat.zero_add]
 exact ⟨hc 0 (by omega),hc 1 (by omega),hc 2 (by omega),hc 3 (by omega),hc 4 (by omega),hc 5 (by omega),hc 6 (by omega),hc 7 (by omega)⟩
theorem OpsOwn.grown {w w':World}{B:Nat}{v:Value}{l:List POp}(h:OpsOwn w B v l)(hg:w.grownBy w' none):OpsOwn w' B v l:=⟨h.1.grown (opR_stab B) hg,h.2⟩
theorem OpsOwn.set {w w':World}{B x t':Nat}{v:Value}{l:List POp}{cc:Array Value}(h:OpsOwn w B v l)(hx:Blk w x t' cc)(h1:t'≠67)(h2:t'≠5)(hg:w.grownBy w' (some x)):OpsOwn w' B v l:=⟨h.1.set (opR_stab B) hx h1 h2 hg,h.2⟩
theorem OpsOwn.mono {w:World}{B B':Nat}{v:Value}{l:List POp}(h:OpsOwn w B v l)(hB:B'<=B):OpsOwn w B' v l:=by
 obtain ⟨⟨vs,h1,h2,h3,h4⟩,hl⟩:=h
 refine ⟨LRow.mono ⟨vs,h1,h2,h3,fun j hj hj'=>?_⟩ hB,hl⟩
 obtain ⟨k,v,ol,t,e,ho⟩:=h4 j hj hj'
 exact ⟨k,v,ol,t,e,ho.mono hB⟩
theorem cells8 {w:World}{b t:Nat}{a0 a1 a2 a3 a4 a5 a6 a7:Value}(h:Blk w b t #[a0,a1,a2,a3,a4,a5,a6,a7]):w.cell? ⟨b,0,none⟩=some a0/\w.cell? ⟨b,1,none⟩=some a1/\w.cell? ⟨b,2,none⟩=some a2/\w.cell? ⟨b,3,none⟩=some a3/\w.cell? ⟨b,4,none⟩=some a4/\w.cell? ⟨b,5,none⟩=some a5/\w.cell? ⟨b,6,none⟩=some a6/\w.cell? ⟨b,7,none⟩=some a7 :=
 ⟨h.cell 0,h.cell 1,h.cell 2,h.cell 3,h.cell 4,h.cell 5,h.cell 6,h.cell 7⟩
theorem Tryz.info67:(Tryz.prog.info? 67).map (fun i=>(i.zero,i.size,i.bytes))=some (some (.agg #[.int .i64 0,.string ⟨#[]⟩,.slice none 0 0,.slice none 0 0,.bool false,.slice none 0 0,.slice none 0 0,.int .i64 0]),8,136):=by kernel_rfl
theorem add_addr (g j:Nat):(⟨g,0,none⟩:Addr).add j=⟨g,j,none⟩:=by unfold Addr.add;split <;> simp_all
theorem app71_wp {o:Oper}{a:Act}{K:Act->World->Prop}{Q:Exit->Act->World->Prop}(w:World)(s x:Operand)
  (ho:o.op=.call { callee:=.builtin .append,args:=#[s,x],argTypes:=#[35,35] })
  (B:Nat) (v:Value) (l:List POp) (p:POp) (g:Nat) (k vl ol t:Value) (hs:a.eval s=v) (hx:a.eval x=.slice (some ⟨g,0,none⟩) 1 1)
  (hrow:OpsOwn w B v l) (hc:Blk w g 67 #[.int .i64 p.kind,.string ⟨p.table.toArray⟩,k,vl,.bool p.has,ol,t,.int .i64 p.most]) (hp:OpOwn w B k vl ol t p) (hb:l.length<=1034834473199) (hB:B<=w.heap.size)
  (h:∀g' cap' w',OpsOwn w' B (.slice (some ⟨g',0,none⟩) (l.length+1) cap') (l ++ [p])->w.grownBy w' v.ownBlock->(v.ownBlock=some g'\/g'=w.heap.size)->K (a.put o.dst (.slice (some ⟨g',0,none⟩) (l.length+1) cap')) w'):o.wp Tryz.prog a w K Q:=by
 obtain ⟨i0,hi,hz0,hz1,hz2⟩:=info_parts Tryz.info67
 obtain ⟨⟨vs,h1,h2,h3,h4⟩,hl⟩:=hrow
 obtain ⟨q0,q1,q2,q3,q4,q5,q6,q7⟩:=cells8 hc
 obtain ⟨x1,n1,y1,rfl⟩:=cut_slice hp.key
 obtain ⟨x2,n2,y2,rfl⟩:=cut_slice hp.value
 obtain ⟨x3,n3,y3,rfl⟩:=cut_slice hp.old
 obtain ⟨x4,n4,y4,rfl⟩:=cut_slice hp.tos
 refine wp_append_lies w s x 35 ho B 67 i0 _ 8 136 Tryz.underlying35 hi hz0 hz1 hz2 rfl (by decide) v l.length vs.flatten hs h1 ⟨g,0,none⟩ 1 1 [.int .i64 p.kind,.string ⟨p.table.toArray⟩,.slice x1 n1 y1,.slice x2 n2 y2,.bool p.has,.slice x3 n3 y3,.slice x4 n4 y4,.int .i64 p.most] hx rfl ?_ ?_ (by decide) (by unfold maxLen;omega) (by omega) hB w.heap.size rfl ?_
 ·intro j y hj
  rw [add_addr]
  match j,hj with
  | 0,hj=>simp at hj;subst hj;exact q0
  | 1,hj=>simp at hj;subst hj;exact q1
  | 2,hj=>simp at hj;subst hj;exact q2
  | 3,hj=>simp at hj;subst hj;exact q3
  | 4,hj=>simp at hj;subst hj;exact q4
  | 5,hj=>simp at hj;subst hj;exact q5
  | 6,hj=>simp at hj;subst hj;exact q6
  | 7,hj=>simp at hj;subst hj;exact q7
  | j+8,hj=>simp at hj
 ·intro y hy
  simp at hy
  rcases hy with rfl | rfl | rfl | rfl | rfl | rfl | rfl | rfl <;> rfl
 ·intro g' cap' w' r2 r3 r4 _
  exact h g' cap' w' ⟨LRow.snoc (opR_stab B) (by decide) h1 h2 h3 h4 rfl ⟨_,_,_,_,rfl,hp⟩ r3 r2,by simp;omega⟩ r3 r4
theorem app71 {ops:Array Oper}{rest:List Oper}{o:Oper}{a:Act}{Q:Exit->Act->World->Prop}(w:World)(hw:Region.wanted o (yielded ops a.tmps)=true)(s x:Operand)
  (ho:o.op=.call { callee:=.builtin .append,args:=#[s,x],argTypes:=#[35,35] })
  (B:Nat) (v:Value) (l:List POp) (p:POp) (g:Nat) (k vl ol t:Value) (hs:a.eval s=v) (hx:a.eval x=.slice (some ⟨g,0,none⟩) 1 1)
  (hrow:OpsOwn w B v l) (hc:Blk w g 67 #[.int .i64 p.kind,.string ⟨p.table.toArray⟩,k,vl,.bool p.has,ol,t,.int .i64 p.most]) (hp:OpOwn w B k vl ol t p) (hb:l.length<=1034834473199) (hB:B<=w.heap.size)
  (h:∀g' cap' w',OpsOwn w' B (.slice (some ⟨g',0,none⟩) (l.length+1) cap') (l ++ [p])->w.grownBy w' v.ownBlock->(v.ownBlock=some g'\/g'=w.heap.size)->wpList Tryz.prog ops Q rest (a.put o.dst (.slice (some ⟨g',0,none⟩) (l.length+1) cap')) w'):wpList Tryz.prog ops Q (o :: rest) a w :=
 BigFrame.wpList_want hw fun _ hK=>app71_wp w s x ho B v l p g k vl ol t hs hx hrow hc hp hb hB fun g' cap' w' h1 h2 h3=>hK _ _ (h g' cap' w' h1 h2 h3)
theorem OpsOwn.slice {w:World}{B:Nat}{v:Value}{l:List POp}(h:OpsOwn w B v l):∃x n y,v=.slice x n y/\n=l.length:=by obtain ⟨x,y,e⟩:=h.1.shape;exact ⟨x,_,y,e,rfl⟩
theorem cut_own {w:World}{B:Nat}{v:Value}{L:Bs}(h:Own w B v L):Names.Cut w B v L:=.inl h
theorem own_nil (w:World)(B:Nat):Own w B (.slice none 0 0) []:=World.ownsRow_nil _ _ _ _
def Fit (l:List POp):Prop:=l.length<=1034834473200/\∀o ∈ l,o.key.length<=140737488355328/\o.value.length<=140737488355328/\o.old.length<=140737488355328/\o.to.length<=140737488355328
theorem copy11 (a:Value)(l:List POp)(w:World)(ha:Ops w a l)(hf:Fit l):Calls Tryz.prog 32 #[.agg #[a]] w fun e w'=>∃u,e=.returned (.agg #[u])/\OpsOwn w' w.heap.size u l/\w.grownBy w' none:=by
 obtain ⟨ao,n,ca,rfl,hna,la,HA⟩:=ops_open ha
 have HN:Hid (l.length=n/\Fit l):=⟨hna,hf⟩
 have hn9:n<=1034834473200:=by rw [<-hna];exact hf.1
 clear ha hna hf
 go_enter Tryz.func32,Tryz.ntmps32
 go_wp2_with fail
 go_loopw [4] (fun i wr=>∃(k:Nat) (v:Value),k<=n/\i=.int .i64 k/\Hid (Blk wr w.heap.size 37 #[.slice ao n ca]/\Blk wr (w.heap.size+1) 37 #[.slice none 0 0]/\Blk wr (w.heap.size+2) 37 #[v]/\OpsOwn wr (w.heap.size+3) v (l.take k)/\w.grownBy wr none)) (fun i _=>n-(intOf i).toNat)
 case atStart =>
  have hb0:=heap_alloc_new w (.cells #[.slice ao n ca] 37)
  have hb1:=heap_alloc_new (w.alloc (.cells #[.slice ao n ca] 37)) (.cells #[.slice none 0 0] 37)
  have hb2:=heap_alloc_new ((w.alloc (.cells #[.slice ao n ca] 37)).alloc (.cells #[.slice none 0 0] 37)) (.cells #[.slice none 0 0] 37)
  have g0:=World.grownBy_alloc w (.cells #[.slice ao n ca] 37) none
  have g1:=World.grownBy_alloc (w.alloc (.cells #[.slice ao n ca] 37)) (.cells #[.slice none 0 0] 37) none
  have g2:=World.grownBy_alloc ((w.alloc (.cells #[.slice ao n ca] 37)).alloc (.cells #[.slice none 0 0] 37)) (.cells #[.slice none 0 0] 37) none
  refine ⟨0,.slice none 0 0,by omega,rfl,Blk.grown hb0 (grown_trans g1 g2) (by simp),?_,?_,⟨lrow_nil _ _,by simp⟩,grown_trans g0 (grown_trans g1 g2)⟩
  ·have:=Blk.grown hb1 g2 (by simp)
   simpa using this
  ·simpa [Blk] using hb2
 case round =>
  obtain ⟨k,v,hk,rfl,HR⟩:=hrel
  have c0:=HR.out.1.cell 0
  by_cases hlt:k<n
  ·have i0:(0:Int)<=(k:Int):=by omega
   have i1:(k:Int)<(n:Int):=by omega
   have hkl:k<l.length:=by rw [HN.out.1];omega
   obtain ⟨b1,o1,k1,x1,ol1,t1,rfl,h1,s1⟩:=ops_at (HA.out.grown HR.out.2.2.2.2) k hkl
   have HT:Hid (l.take (k+1)=l.take k ++ [l[k]]/\(l.take k).length=k):=⟨List.take_succ_eq_append_getElem hkl,by rw [List.length_take];omega⟩
   have HF:Hid _:=HN.out.2.2 l[k] (List.getElem_mem hkl)
   obtain ⟨o,ho⟩:∃o,l[k]=o:=⟨_,rfl⟩
   rw [ho] at h1 s1 HT HF
   clear ho hkl
   obtain ⟨p1,p2,p3,p4,r1,r2,r3,r4,rfl,rfl,rfl,rfl⟩:=s1.shapes
   have HS:Hid (OpSeg wr (.slice p1 o.key.length r1) (.slice p2 o.value.length r2) (.slice p3 o.old.length r3) (.slice p4 o.to.length r4) o):=s1
   clear s1
   obtain ⟨a0,a1,a2,a3,a4,a5,a6,a7⟩:=h1
   unfold Str at a1
   go_upto_region 6 with fail
   have S0:Hid (Blk (wr.alloc (.cells #[.int .i64 o.kind,.string ⟨o.table.toArray⟩,.slice p1 o.key.length r1,.slice p2 o.value.length r2,.bool o.has,.slice p3 o.old.length r3,.slice p4 o.to.length r4,.int .i64 o.most] 67)) wr.heap.size 67 #[.int .i64 o.kind,.string ⟨o.table.toArray⟩,.slice p1 o.key.length r1,.slice p2 o.value.length r2,.bool o.has,.slice p3 o.old.length r3,.slice p4 o.to.length r4,.int .i64 o.most]/\wr.grownBy (wr.alloc (.cells #[.int .i64 o.kind,.string ⟨o.table.toArray⟩,.slice p1 o.key.length r1,.slice p2 o.value.length r2,.bool o.has,.slice p3 o.old.length r3,.slice p4 o.to.length r4,.int .i64 o.most] 67)) none):=⟨heap_alloc_new wr _,World.grownBy_alloc _ _ none⟩
   generalize (wr.alloc (.cells #[.int .i64 o.kind,.string ⟨o.table.toArray⟩,.slice p1 o.key.length r1,.slice p2 o.value.length r2,.bool o.has,.slice p3 o.old.length r3,.slice p4 o.to.length r4,.int .i64 o.most] 67))=w0 at S0 ⊢
   clear c0 a0 a1 a2 a3 a4 a5 a6 a7
   have hz:(w.heap.size+3)<=wr.heap.size:=HR.out.2.2.1.lt
   have HZ:Hid ((w.heap.size+3)<=wr.heap.size):=hz
   clear hz
   have c0:=S0.out.1.cell 2
   go_wp2_with (at_builtin;refine app22 _ rfl _ _ rfl (w.heap.size+3) (.slice none 0 0) [] _ o.key rfl rfl (own_nil _ _) (HS.out.key.grown S0.out.2) ?h1 ?h2 ?_)
   case h1=>have:=HF.out.1;simp;omega
   case h2=>exact Nat.le_trans HZ.out S0.out.2.size
   clear c0
   intro v1 x1 q1 q2 q3
   have q2':w0.grownBy x1 none:=q2
   obtain ⟨e1,n1,y1,rfl⟩:=slice_of q1
   have T:Hid (Blk x1 wr.heap.size 67 #[.int .i64 o.kind,.string ⟨o.table.toArray⟩,.slice p1 o.key.length r1,.slice p2 o.value.length r2,.bool o.has,.slice p3 o.old.length r3,.slice p4 o.to.length r4,.int .i64 o.most]/\wr.grownBy x1 none/\Own x1 (w.heap.size+3) (.slice e1 n1 y1) o.key):=⟨S0.out.1.grown q2' (by simp),grown_trans S0.out.2 q2',by simpa using q1⟩
   clear q1 q2 q2' q3 S0
   have c0:=T.out.1.cell 2
   have z0:=T.out.1.free 2
   go_upto_region 7 with fail
   clear c0 z0
   have S1:Hid (Blk (x1.setCell ⟨wr.heap.size,2,none⟩ (.slice e1 n1 y1)) wr.heap.size 67 #[.int .i64 o.kind,.string ⟨o.table.toArray⟩,.slice e1 n1 y1,.slice p2 o.value.length r2,.bool o.has,.slice p3 o.old.length r3,.slice p4 o.to.length r4,.int .i64 o.most]/\wr.grownBy (x1.setCell ⟨wr.heap.size,2,none⟩ (.slice e1 n1 y1)) none/\Own (x1.setCell ⟨wr.heap.size,2,none⟩ (.slice e1 n1 y1)) (w.heap.size+3) (.slice e1 n1 y1) o.key):=by
    have hg:=grown_setCell x1 wr.heap.size 2 (.slice e1 n1 y1)
    exact ⟨T.out.1.store 2 _,grown_new T.out.2.1 hg (fun y hy=>by simp at hy;omega),own_set (T.out.2.2) T.out.1 (by decide) hg⟩
   generalize (x1.setCell ⟨wr.heap.size,2,none⟩ (.slice e1 n1 y1))=w1 at S1 ⊢
   clear T
   have c0:=S1.out.1.cell 3
   go_wp2_with (at_builtin;refine app22 _ rfl _ _ rfl (w.heap.size+3) (.slice none 0 0) [] _ o.value rfl rfl (own_nil _ _) (HS.out.value.grown S1.out.2.1) ?h1 ?h2 ?_)
   case h1=>have:=HF.out.2.1;simp;omega
   case h2=>exact Nat.le_trans HZ.out S1.out.2.1.size
   clear c0
   intro v2 x2 q1 q2 q3
   have q2':w1.grownBy x2 none:=q2
   obtain ⟨e2,n2,y2,rfl⟩:=slice_of q1
   have T:Hid (Blk x2 wr.heap.size 67 #[.int .i64 o.kind,.string ⟨o.table.toArray⟩,.slice e1 n1 y1,.slice p2 o.value.length r2,.bool o.has,.slice p3 o.old.length r3,.slice p4 o.to.length r4,.int .i64 o.most]/\wr.grownBy x2 none/\Own x2 (w.heap.size+3) (.slice e2 n2 y2) o.value/\Own x2 (w.heap.size+3) (.slice e1 n1 y1) o.key):=⟨S1.out.1.grown q2' (by simp),grown_trans S1.out.2.1 q2',by simpa using q1,(S1.out.2.2).grown q2'⟩
   clear q1 q2 q2' q3 S1
   have c0:=T.out.1.cell 3
   have z0:=T.out.1.free 3
   go_upto_region 8 with fail
   clear c0 z0
   have S2:Hid (Blk (x2.setCell ⟨wr.heap.size,3,none⟩ (.slice e2 n2 y2)) wr.heap.size 67 #[.int .i64 o.kind,.string ⟨o.table.toArray⟩,.slice e1 n1 y1,.slice e2 n2 y2,.bool o.has,.slice p3 o.old.length r3,.slice p4 o.to.length r4,.int .i64 o.most]/\wr.grownBy (x2.setCell ⟨wr.heap.size,3,none⟩ (.slice e2 n2 y2)) none/\Own (x2.setCell ⟨wr.heap.size,3,none⟩ (.slice e2 n2 y2)) (w.heap.size+3) (.slice e1 n1 y1) o.key/\Own (x2.setCell ⟨wr.heap.size,3,none⟩ (.slice e2 n2 y2)) (w.heap.size+3) (.slice e2 n2 y2) o.value):=by
    have hg:=grown_setCell x2 wr.heap.size 3 (.slice e2 n2 y2)
    exact ⟨T.out.1.store 3 _,grown_new T.out.2.1 hg (fun y hy=>by simp at hy;omega),own_set (T.out.2.2.2) T.out.1 (by decide) hg,own_set (T.out.2.2.1) T.out.1 (by decide) hg⟩
   generalize (x2.setCell ⟨wr.heap.size,3,none⟩ (.slice e2 n2 y2))=w2 at S2 ⊢
   clear T
   have c0:=S2.out.1.cell 5
   go_wp2_with (at_builtin;refine app22 _ rfl _ _ rfl (w.heap.size+3) (.slice none 0 0) [] _ o.old rfl rfl (own_nil _ _) (HS.out.old.grown S2.out.2.1) ?h1 ?h2 ?_)
   case h1=>have:=HF.out.2.2.1;simp;omega
   case h2=>exact Nat.le_trans HZ.out S2.out.2.1.size
   clear c0
   intro v3 x3 q1 q2 q3
   have q2':w2.grownBy x3 none:=q2
   obtain ⟨e3,n3,y3,rfl⟩:=slice_of q1
   have T:Hid (Blk x3 wr.heap.size 67 #[.int .i64 o.kind,.string ⟨o.table.toArray⟩,.slice e1 n1 y1,.slice e2 n2 y2,.bool o.has,.slice p3 o.old.length r3,.slice p4 o.to.length r4,.int .i64 o.most]/\wr.grownBy x3 none/\Own x3 (w.heap.size+3) (.slice e3 n3 y3) o.old/\Own x3 (w.heap.size+3) (.slice e1 n1 y1) o.key/\Own x3 (w.heap.size+3) (.slice e2 n2 y2) o.value):=⟨S2.out.1.grown q2' (by simp),grown_trans S2.out.2.1 q2',by simpa using q1,(S2.out.2.2.1).grown q2',(S2.out.2.2.2).grown q2'⟩
   clear q1 q2 q2' q3 S2
   have c0:=T.out.1.cell 5
   have z0:=T.out.1.free 5
   go_upto_region 9 with fail
   clear c0 z0
   have S3:Hid (Blk (x3.setCell ⟨wr.heap.size,5,none⟩ (.slice e3 n3 y3)) wr.heap.size 67 #[.int .i64 o.kind,.string ⟨o.table.toArray⟩,.slice e1 n1 y1,.slice e2 n2 y2,.bool o.has,.slice e3 n3 y3,.slice p4 o.to.length r4,.int .i64 o.most]/\wr.grownBy (x3.setCell ⟨wr.heap.size,5,none⟩ (.slice e3 n3 y3)) none/\Own (x3.setCell ⟨wr.heap.size,5,none⟩ (.slice e3 n3 y3)) (w.heap.size+3) (.slice e1 n1 y1) o.key/\Own (x3.setCell ⟨wr.heap.size,5,none⟩ (.slice e3 n3 y3)) (w.heap.size+3) (.slice e2 n2 y2) o.value/\Own (x3.setCell ⟨wr.heap.size,5,none⟩ (.slice e3 n3 y3)) (w.heap.size+3) (.slice e3 n3 y3) o.old):=by
    have hg:=grown_setCell x3 wr.heap.size 5 (.slice e3 n3 y3)
    exact ⟨T.out.1.store 5 _,grown_new T.out.2.1 hg (fun y hy=>by simp at hy;omega),own_set (T.out.2.2.2.1) T.out.1 (by decide) hg,own_set (T.out.2.2.2.2) T.out.1 (by decide) hg,own_set (T.out.2.2.1) T.out.1 (by decide) hg⟩
   generalize (x3.setCell ⟨wr.heap.size,5,none⟩ (.slice e3 n3 y3))=w3 at S3 ⊢
   clear T
   have c0:=S3.out.1.cell 6
   go_wp2_with (at_builtin;refine app22 _ rfl _ _ rfl (w.heap.size+3) (.slice none 0 0) [] _ o.to rfl rfl (own_nil _ _) (HS.out.to.grown S3.out.2.1) ?h1 ?h2 ?_)
   case h1=>have:=HF.out.2.2.2;simp;omega
   case h2=>exact Nat.le_trans HZ.out S3.out.2.1.size
   clear c0
   intro v4 x4 q1 q2 q3
   have q2':w3.grownBy x4 none:=q2
   obtain ⟨e4,n4,y4,rfl⟩:=slice_of q1
   have T:Hid (Blk x4 wr.heap.size 67 #[.int .i64 o.kind,.string ⟨o.table.toArray⟩,.slice e1 n1 y1,.slice e2 n2 y2,.bool o.has,.slice e3 n3 y3,.slice p4 o.to.length r4,.int .i64 o.most]/\wr.grownBy x4 none/\Own x4 (w.heap.size+3) (.slice e4 n4 y4) o.to/\Own x4 (w.heap.size+3) (.slice e1 n1 y1) o.key/\Own x4 (w.heap.size+3) (.slice e2 n2 y2) o.value/\Own x4 (w.heap.size+3) (.slice e3 n3 y3) o.old):=⟨S3.out.1.grown q2' (by simp),grown_trans S3.out.2.1 q2',by simpa using q1,(S3.out.2.2.1).grown q2',(S3.out.2.2.2.1).grown q2',(S3.out.2.2.2.2).grown q2'⟩
   clear q1 q2 q2' q3 S3
   have c0:=T.out.1.cell 6
   have z0:=T.out.1.free 6
   go_upto_region 10 with fail
   clear c0 z0
   have S4:Hid (Blk (x4.setCell ⟨wr.heap.size,6,none⟩ (.slice e4 n4 y4)) wr.heap.size 67 #[.int .i64 o.kind,.string ⟨o.table.toArray⟩,.slice e1 n1 y1,.slice e2 n2 y2,.bool o.has,.slice e3 n3 y3,.slice e4 n4 y4,.int .i64 o.most]/\wr.grownBy (x4.setCell ⟨wr.heap.size,6,none⟩ (.slice e4 n4 y4)) none/\Own (x4.setCell ⟨wr.heap.size,6,none⟩ (.slice e4 n4 y4)) (w.heap.size+3) (.slice e1 n1 y1) o.key/\Own (x4.setCell ⟨wr.heap.size,6,none⟩ (.slice e4 n4 y4)) (w.heap.size+3) (.slice e2 n2 y2) o.value/\Own (x4.setCell ⟨wr.heap.size,6,none⟩ (.slice e4 n4 y4)) (w.heap.size+3) (.slice e3 n3 y3) o.old/\Own (x4.setCell ⟨wr.heap.size,6,none⟩ (.slice e4 n4 y4)) (w.heap.size+3) (.slice e4 n4 y4) o.to):=by
    have hg:=grown_setCell x4 wr.heap.size 6 (.slice e4 n4 y4)
    exact ⟨T.out.1.store 6 _,grown_new T.out.2.1 hg (fun y hy=>by simp at hy;omega),own_set (T.out.2.2.2.1) T.out.1 (by decide) hg,own_set (T.out.2.2.2.2.1) T.out.1 (by decide) hg,own_set (T.out.2.2.2.2.2) T.out.1 (by decide) hg,own_set (T.out.2.2.1) T.out.1 (by decide) hg⟩
   generalize (x4.setCell ⟨wr.heap.size,6,none⟩ (.slice e4 n4 y4))=w4 at S4 ⊢
   clear T
   obtain ⟨x0,n0,y0,rfl,hn0⟩:=HR.out.2.2.2.1.slice
   rw [HT.out.2] at hn0
   subst hn0
   have c0:=(HR.out.2.2.1.grown S4.out.2.1 (by simp)).cell 0
   obtain ⟨a0,a1,a2,a3,a4,a5,a6,a7⟩:=cells8 S4.out.1
   have HX:Hid (OpsOwn (w4.alloc (.cells #[.int .i64 o.kind,.string ⟨o.table.toArray⟩,.slice e1 n1 y1,.slice e2 n2 y2,.bool o.has,.slice e3 n3 y3,.slice e4 n4 y4,.int .i64 o.most] 67)) (w.heap.size+3) (.slice x0 n0 y0) (l.take n0)/\Blk (w4.alloc (.cells #[.int .i64 o.kind,.string ⟨o.table.toArray⟩,.slice e1 n1 y1,.slice e2 n2 y2,.bool o.has,.slice e3 n3 y3,.slice e4 n4 y4,.int .i64 o.most] 67)) w4.heap.size 67 #[.int .i64 o.kind,.string ⟨o.table.toArray⟩,.slice e1 n1 y1,.slice e2 n2 y2,.bool o.has,.slice e3 n3 y3,.slice e4 n4 y4,.int .i64 o.most]/\OpOwn (w4.alloc (.cells #[.int .i64 o.kind,.string ⟨o.table.toArray⟩,.slice e1 n1 y1,.slice e2 n2 y2,.bool o.has,.slice e3 n3 y3,.slice e4 n4 y4,.int .i64 o.most] 67)) (w.heap.size+3) (.slice e1 n1 y1) (.slice e2 n2 y2) (.slice e3 n3 y3) (.slice e4 n4 y4) o/\(w.heap.size+3)<=(w4.alloc (.cells #[.int .i64 o.kind,.string ⟨o.table.toArray⟩,.slice e1 n1 y1,.slice e2 n2 y2,.bool o.has,.slice e3 n3 y3,.slice e4 n4 y4,.int .i64 o.most] 67)).heap.size/\wr.grownBy (w4.alloc (.cells #[.int .i64 o.kind,.string ⟨o.table.toArray⟩,.slice e1 n1 y1,.slice e2 n2 y2,.bool o.has,.slice e3 n3 y3,.slice e4 n4 y4,.int .i64 o.most] 67)) none):=by
    have hg:=World.grownBy_alloc w4 (.cells #[.int .i64 o.kind,.string ⟨o.table.toArray⟩,.slice e1 n1 y1,.slice e2 n2 y2,.bool o.has,.slice e3 n3 y3,.slice e4 n4 y4,.int .i64 o.most] 67) none
    refine ⟨HR.out.2.2.2.1.grown (grown_trans S4.out.2.1 hg),heap_alloc_new w4 _,⟨cut_own ((S4.out.2.2.1).grown hg),cut_own ((S4.out.2.2.2.1).grown hg),cut_own ((S4.out.2.2.2.2.1).grown hg),cut_own ((S4.out.2.2.2.2.2).grown hg),HS.out.fits⟩,?_,grown_trans S4.out.2.1 hg⟩
    exact Nat.le_trans HZ.out (grown_trans S4.out.2.1 hg).size
   go_wp2_with (at_builtin;refine app71 _ rfl (.tmp 35) (.tmp 37) rfl (w.heap.size+3) (.slice x0 n0 y0) (l.take n0) o w4.heap.size _ _ _ _ rfl rfl HX.out.1 HX.out.2.1 HX.out.2.2.1 ?h1 HX.out.2.2.2.1 ?_)
   case h1=>rw [HT.out.2];omega
   clear c0 a0 a1 a2 a3 a4 a5 a6 a7
   intro g' cap' w5 o5 g5 l5
   have e0:min n0 l.length=n0:=Nat.min_eq_left (by rw [HN.out.1];omega)
   rw [e0] at o5 ⊢
   clear e0
   rw [<-HT.out.1] at o5
   have S5:Hid (Blk w5 w.heap.size 37 #[.slice (some ⟨b1,o1,none⟩) n ca]/\Blk w5 (w.heap.size+1) 37 #[.slice none 0 0]/\Blk w5 (w.heap.size+2) 37 #[.slice x0 n0 y0]/\OpsOwn w5 (w.heap.size+3) (.slice (some ⟨g',0,none⟩) (n0+1) cap') (l.take (n0+1))/\w.grownBy w5 none):=by
    have ht:=HX.out.1.1.lt
    have hg:=HX.out.2.2.2.2
    refine ⟨(HR.out.1.grown hg (by simp)).grown g5 (fun e=>?_),(HR.out.2.1.grown hg (by simp)).grown g5 (fun e=>?_),(HR.out.2.2.1.grown hg (by simp)).grown g5 (fun e=>?_),o5,grown_new (grown_trans HR.out.2.2.2.2 hg) g5 (fun y hy=>by have:=(ht y hy).1;omega)⟩
    ·have:=(ht _ e).1;omega
    ·have:=(ht _ e).1;omega
    ·have:=(ht _ e).1;omega
   clear o5 g5 l5 HX S4
   have c0:=S5.out.2.2.1.cell 0
   have z0:=S5.out.2.2.1.free 0
   go_wp2_with fail
   go_roundw
   case rel =>
    have hg:=grown_setCell w5 (w.heap.size+2) 0 (.slice (some ⟨g',0,none⟩) (n0+1) cap')
    exact ⟨n0+1,_,by omega,by go_num,S5.out.1.grown hg (fun e=>by simp at e),S5.out.2.1.grown hg (fun e=>by simp at e),S5.out.2.2.1.store 0 _,S5.out.2.2.2.1.set S5.out.2.2.1 (by decide) (by decide) hg,grown_new S5.out.2.2.2.2 hg (fun y hy=>by simp at hy;omega)⟩
   case measure=>simp [intOf];omega
  ·have e:k=n:=by omega
   subst e
   obtain ⟨x0,n0,y0,rfl,hn0⟩:=HR.out.2.2.2.1.slice
   have c1:=HR.out.2.2.1.cell 0
   have c2:=HR.out.2.1.cell 0
   have z2:=HR.out.2.1.free 0
   clear hn0
   go_wp2_with fail
   have hg:=grown_setCell wr (w.heap.size+1) 0 (.slice x0 n0 y0)
   refine bodyPost_ret (v:=_) (results_cell_row rfl _ _ (w.heap.size+1) 37 _ (0,0) _ rfl (HR.out.2.1.store 0 (.slice x0 n0 y0)) Tryz.underlying37 rfl (by kernel_rfl)) rfl ?_
   refine ⟨_,rfl,?_,grown_new HR.out.2.2.2.2 hg (fun y hy=>by simp at hy;omega)⟩
   have h:=(HR.out.2.2.2.1.set HR.out.2.1 (by decide) (by decide) hg).mono (B':=w.heap.size) (by omega)
   rw [List.take_of_length_le (by rw [HN.out.1];omega)] at h
   exact h
end Go.Proofs.YtakmlhhapegpoaaGreat.Calls
