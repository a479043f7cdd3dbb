import Derived.Test.YtakmlhhapegpoaaGreatFrtAll
import Derived.Sort.LoopGhostIn
set_option maxRecDepth 100000
namespace Go.Proofs.YtakmlhhapegpoaaGreat
open Go.RowKit Disk Table
open Names (Str cmpL keyB valueB tabB inB)
def stepT (p:List Bs)(n:Bs):List Bs:=if p.getLast? = some n then p else p ++ [n]
def tabsF (F:List NRow):List Bs:=F.foldl (fun p r=>stepT p r.1) []
theorem tabs_succ {F:List NRow}{k:Nat}(h:k<F.length):tabsF (F.take (k+1))=stepT (tabsF (F.take k)) F[k].1:=by
 unfold tabsF
 rw [List.take_succ_eq_append_getElem h,List.foldl_append]
 rfl
theorem tabs_len (F:List NRow):(tabsF F).length<=F.length:=by
 have key:∀(F:List NRow) (p:List Bs),(F.foldl (fun p r=>stepT p r.1) p).length<=p.length+F.length:=by
  intro F
  induction F with
  | nil=>intro p;simp
  | cons r F ih =>
   intro p
   have h:=ih (stepT p r.1)
   have h2:(stepT p r.1).length<=p.length+1:=by
    unfold stepT
    split <;> simp
   simp only [List.foldl_cons,List.length_cons]
   omega
 simpa [tabsF] using key F []
theorem fold_same (n:Bs):∀(rs:List PRow) (p:List Bs),p.getLast? = some n->(nm n rs).foldl (fun p r=>stepT p r.1) p=p
 | [],p,_=>rfl
 | r :: rs,p,h=>by
  have e:stepT p n=p:=by unfold stepT;rw [if_pos h]
  simp only [nm,List.map_cons,List.foldl_cons,e]
  exact fold_same n rs p h
theorem tabs_flat {D:DB}(h:GoodD D):tabsF (flatD D)=namesD D:=by
 have key:∀(D:DB) (p:List Bs),RiseD D->(∀x ∈ D,x.2≠[])->(∀x ∈ D,p.getLast?≠some x.1)->(flatD D).foldl (fun p r=>stepT p r.1) p=p ++ namesD D:=by
  intro D
  induction D with
  | nil=>intro p _ _ _;simp [flatD,namesD]
  | cons x D ih =>
   intro p hr hs hp
   have hr':=List.pairwise_cons.1 hr
   obtain ⟨r,rs,e⟩:=List.exists_cons_of_ne_nil (hs x (by simp))
   have e1:stepT p x.1=p ++ [x.1]:=by unfold stepT;rw [if_neg (hp x (by simp))]
   have e2:(x.2.map (fun r=>(x.1,r))).foldl (fun p r=>stepT p r.1) p=p ++ [x.1]:=by
    rw [e]
    simp only [List.map_cons,List.foldl_cons,e1]
    exact fold_same x.1 rs _ (by simp)
   rw [flat_cons,List.foldl_append,e2,ih _ hr'.2 (fun y hy=>hs y (by simp [hy])) (fun y hy he=>?_)]
   ·simp [namesD]
   ·simp at he
    have:=hr'.1 y hy
    rw [he,Names.cmp_self] at this
    omega
 have:=key D [] h.rise h.some (by simp)
 simpa [tabsF] using this
def KeepS (n i j:Nat)(w w':World):Prop:=w'.os=w.os/\w'.tape=w.tape/\w'.output=w.output/\w.heap.size<=w'.heap.size/\∀k,k<n->k≠i->k≠j->w'.heap[k]? = w.heap[k]?
theorem KeepS.refl (n i j:Nat)(w:World):KeepS n i j w w:=⟨rfl,rfl,rfl,Nat.le_refl _,fun _ _ _ _=>rfl⟩
theorem KeepS.trans {n i j:Nat}{a w w':World}(h:KeepS n i j a w)(k:KeepS n i j w w'):KeepS n i j a w':=⟨k.1.trans h.1,k.2.1.trans h.2.1,k.2.2.1.trans h.2.2.1,Nat.le_trans h.2.2.2.1 k.2.2.2.1,fun x h1 h2 h3=>(k.2.2.2.2 x h1 h2 h3).trans (h.2.2.2.2 x h1 h2 h3)⟩
theorem KeepS.of_tn {n i j n0:Nat}{w w':World}(h:Tn n0 w w')(h0:n<=n0)(hn:n<=w.heap.size):KeepS n i j w w':=⟨h.os,h.tape,h.output,h.size,fun k hk _ _=>h.block k (by omega) (.inl (by omega))⟩
theorem KeepS.of_grown {n i j:Nat}{w w':World}{r:Option Nat}(h:w.grownBy w' r)(hn:n<=w.heap.size)(hr:∀g,r=some g->n<=g\/g=i\/g=j):KeepS n i j w w':=⟨h.os,h.tape,h.output,h.size,fun k hk h1 h2=>h.block k (by omega) (fun e=>by
 rcases hr k e.symm with h | h | h
 ·omega
 ·exact h1 h
 ·exact h2 h)⟩
theorem em_two {X:Nat->Prop}{w w':World}{m i j t t':Nat}{D:DB}{c c':Array Value}(h:EM X w m D)(hi:Blk w i t c)(hj:Blk w j t' c')(hij:i≠j)(hk:KeepS w.heap.size i j w w')
  (h86:t≠86) (h5:t≠5) (h128:t≠128) (hc:∀u ∈ c.toList,noP u) (h86':t'≠86) (h5':t'≠5) (h128':t'≠128) (hc':∀u ∈ c'.toList,noP u):EM X w' m D:=by
 have hil:=hi.lt
 obtain ⟨o,ho⟩:∃o,w'.heap[i]? = some o:=by
  have:i<w'.heap.size:=Nat.lt_of_lt_of_le hil hk.2.2.2.1
  exact ⟨_,Array.getElem?_eq_getElem this⟩
 have g1:w.grownBy (w.putObj i o) (some i):=⟨rfl,rfl,rfl,by simp [World.putObj],fun k _ hne=>World.putObj_heap_other (fun e=>hne (by rw [e]))⟩
 have g2:(w.putObj i o).grownBy w' (some j):=⟨hk.1,hk.2.1,hk.2.2.1,by simpa [World.putObj] using hk.2.2.2.1,fun k hkl hne=>by
  by_cases e:k=i
  ·subst e
   rw [World.putObj_heap_same hil,ho]
  ·rw [World.putObj_heap_other e]
   exact hk.2.2.2.2 k (by simpa [World.putObj] using hkl) e (fun e2=>hne (by rw [e2]))⟩
 have hj1:Blk (w.putObj i o) j t' c':=hj.grown g1 (by simp;exact hij)
 exact em_offT (em_offT h g1 hi h86 h5 h128 hc) g2 hj1 h86' h5' h128' hc'
theorem run_neqq (q:Int × Int)(w:World):(binOp .neq 23 (.agg #[.int .i64 q.1,.int .i64 q.2]) (.agg #[.int .i64 q.1,.int .i64 q.2])).run Tryz.prog w=.ok (.bool false) w:=by
 have u3:=Tryz.underlying3
 have z3:=Tryz.sizeOf3
 have a3:=Tryz.isAgg3
 rw [run_neq_struct,show (10000:Nat)=9998+1+1 from rfl,run_equalIn_struct w _ 23 _ _ (by kernel_rfl) (by kernel_rfl)]
 simp only [Program.fieldsOf,Tryz.underlying23]
 go_simp
def upT (T:Array Value)(j:Nat)(a b c d e f g h i k l:Value):Array Value:=(((((((((((T.setIfInBounds 9 (.int .i64 (j:Int))).setIfInBounds 87 a).setIfInBounds 88 b).setIfInBounds 89 c).setIfInBounds 90 d).setIfInBounds 91 e).setIfInBounds 92 f).setIfInBounds 93 g).setIfInBounds 94 h).setIfInBounds 95 i).setIfInBounds 96 k).setIfInBounds 97 l
theorem setIf_self {T:Array Value}{i:Nat}{v:Value}(h:T[i]? = some v):T.setIfInBounds i v=T:=by
 apply Array.ext_getElem?
 intro j
 rw [Array.getElem?_setIfInBounds]
 split
 ·rename_i e
  subst e
  obtain ⟨hl,he⟩:=Array.getElem?_eq_some_iff.1 h
  simp [hl,he]
 ·rfl
theorem upT_self {T:Array Value}(h9:T[9]? = some (.int .i64 ((0:Nat):Int)))(hs:98<=T.size):∃a b c d e f g h i k l:Value,T=upT T 0 a b c d e f g h i k l:=by
 refine ⟨T[87],T[88],T[89],T[90],T[91],T[92],T[93],T[94],T[95],T[96],T[97],?_⟩
 unfold upT
 rw [setIf_self h9]
 have key:∀i (h:i<T.size),T.setIfInBounds i T[i]=T:=fun i h=>setIf_self (Array.getElem?_eq_getElem h)
 rw [key 87,key 88,key 89,key 90,key 91,key 92,key 93,key 94,key 95,key 96,key 97]
theorem wpIn_loop_upT {F:Fence}{n:Nat}{P:Program}{Q:Exit->Act->World->Prop}{c:Code}{T:Array Value}{w:World}(J:Nat->World->Prop)(N:Nat)(h0:J 0 w)
  (h9:T[9]? = some (.int .i64 ((0:Nat):Int))) (hs:98<=T.size)
  (round:∀(j:Nat) (A:World) (a b c' d e f g h i k l:Value),J j A->j<=N->c.wpIn F n P (Exit.then (fun a' w'=>j<N/\(∃a b c d e f g h i k l:Value,a'={ tmps:=upT T (j+1) a b c d e f g h i k l,defers:=[] })/\J (j+1) w') Q) { tmps:=upT T j a b c' d e f g h i k l,defers:=[] } A):(Code.loop c).wpIn F n P Q { tmps:=T,defers:=[] } w:=by
 obtain ⟨a,b,c',d,e,f,g,h,i,k,l,hT⟩:=upT_self h9 hs
 refine wpIn_loop_ghost (fun m a A=>∃(j:Nat) (x1 x2 x3 x4 x5 x6 x7 x8 x9 x10 x11:Value),m=N-j/\j<=N/\a={ tmps:=upT T j x1 x2 x3 x4 x5 x6 x7 x8 x9 x10 x11,defers:=[] }/\J j A) N ⟨0,a,b,c',d,e,f,g,h,i,k,l,rfl,Nat.zero_le _,by rw [<-hT],h0⟩ ?_
 rintro m a A ⟨j,x1,x2,x3,x4,x5,x6,x7,x8,x9,x10,x11,rfl,hj,rfl,hJ⟩
 refine wpIn_mono (round j A x1 x2 x3 x4 x5 x6 x7 x8 x9 x10 x11 hJ hj) ?_
 intro e a' w' he
 cases e with
 | normal =>
  obtain ⟨hlt,⟨y1,y2,y3,y4,y5,y6,y7,y8,y9,y10,y11,ha⟩,hJ'⟩:=he
  exact ⟨N-(j+1),by omega,j+1,y1,y2,y3,y4,y5,y6,y7,y8,y9,y10,y11,rfl,by omega,ha,hJ'⟩
 | _=>exact he
theorem nms_mid {w:World}{ao:Option Addr}{n cap:Nat}{l:List NRow}(h:Nms w (.slice ao n cap) l)(hn:l.length=n)(k:Nat)(hk:k<l.length):Nms w (sliced ao k (k+1) cap 3) [l[k]]:=by
 obtain ⟨ks,ha,hv⟩:=h
 have hv':=hv
 obtain ⟨ao1,c1,e1,_⟩:=hv'
 simp at e1
 obtain ⟨rfl,rfl,rfl⟩:=e1
 have:=vec_piece hv k (k+1) (by omega) (by omega)
 have hkk:k<ks.length:=by rw [ha.1];exact hk
 refine ⟨[ks[k]],⟨rfl,fun j a b=>?_⟩,?_⟩
 ·simp at a
  subst a
  exact ha.2 k hkk hk
 ·rw [Nat.add_sub_cancel_left] at this
  have e:((ncells ks).drop (k*3)).take (1*3)=ncells [ks[k]]:=by
   rw [<-ncells_drop,<-ncells_take,List.drop_eq_getElem_cons hkk]
   rfl
  rw [e] at this
  exact this
theorem nms_one {w w0:World}{n:Bs}{x y:Value}{r:PRow}(hb:Blk w w0.heap.size 61 #[Str n,x,y])(hx:Seg w x r.1)(hy:Seg w y r.2):Nms w (.slice (some ⟨w0.heap.size,0,none⟩) 1 1) [(n,r)] :=
 ⟨[(n,x,y)],⟨rfl,fun j a b=>by
  simp at a
  subst a
  exact ⟨rfl,hx,hy⟩⟩,vec_three61 w0 _ _ _ w hb⟩
structure SV (S xb ib tb vB k:Nat)(tn:Bs)(x y tv tv0:Value)(ny:Nat)(p:List Bs)(w6 W2 A:World):Prop where
 row:Blk A xb 61 #[.string ⟨tn.toArray⟩,x,y]
 ibk:Blk A ib 3 #[.int .i64 (k:Int)]
 tbk:Blk A tb 89 #[tv]
 nos:Nos A (S+2) tv p
 val:∃M:Bs,M.length=ny/\Disk.Own A vB y M
 keep:KeepS S ib tb w6 A
 size:W2.heap.size<=A.heap.size
 same:∀i,i<W2.heap.size->i≠ib->i≠tb->y.ownBlock≠some i->tv0.ownBlock≠some i->A.heap[i]? = W2.heap[i]?
 newt:∀g,tv.ownBlock=some g->tv0.ownBlock=some g\/W2.heap.size<=g
theorem SV.at {S xb ib tb vB k ny:Nat}{tn:Bs}{x tv tv0:Value}{ay:Option Addr}{cy:Nat}{p:List Bs}{w6 W2 A:World}(h:SV S xb ib tb vB k tn x (.slice ay ny cy) tv tv0 ny p w6 W2 A)(j:Nat)(hj:j<ny):∃vg c0,ay=some ⟨vg,0,none⟩/\A.cell? ⟨vg,j,none⟩=some c0/\A.frozen? ⟨vg,j,none⟩=false:=by
 obtain ⟨M,hM,ho⟩:=h.val
 rcases ho.2 with ⟨e,h0⟩ | ⟨g,cap,cur,e,hb,hg,rest⟩
 ·simp at e
  omega
 ·simp at e
  obtain ⟨rfl,_,rfl⟩:=e
  have hbk:Blk A g 5 cur:=hg
  exact ⟨g,_,rfl,(Names.own_cell ho j (by omega)).1,hbk.free j⟩
theorem SV.set {S xb ib tb vB k ny:Nat}{tn:Bs}{x tv tv0:Value}{vg cy:Nat}{p:List Bs}{w6 W2 A:World}(h:SV S xb ib tb vB k tn x (.slice (some ⟨vg,0,none⟩) ny cy) tv tv0 ny p w6 W2 A)(hS:S<=vB)(j:Nat)(_hj:j<ny):SV S xb ib tb vB k tn x (.slice (some ⟨vg,0,none⟩) ny cy) tv tv0 ny p w6 W2 (A.setCell ⟨vg,j,none⟩ (.int .u8 90)):=by
 obtain ⟨M,hM,ho⟩:=h.val
 have hlt:=ho.lt vg rfl
 obtain ⟨cur,hbk⟩:∃cur,Blk A vg 5 cur:=by
  rcases ho.2 with ⟨e,h0⟩ | ⟨g,cap,cur,e,hb,hg,rest⟩
  ·simp at e
  ·simp at e
   obtain ⟨rfl,_⟩:=e
   exact ⟨cur,hg⟩
 have hoth:∀i,i≠vg->(A.setCell ⟨vg,j,none⟩ (.int .u8 90)).heap[i]? = A.heap[i]?:=fun i hi=>heap_setCell_other A _ i _ hi
 have hne:∀{b t:Nat} {c:Array Value},Blk A b t c->t≠5->b≠vg:=fun {b t c} hb ht e=>by
  subst e
  unfold Blk at hb hbk
  rw [hbk] at hb
  simp at hb
  exact ht hb.2.symm
 have hsz:(A.setCell ⟨vg,j,none⟩ (.int .u8 90)).heap.size=A.heap.size:=by simp
 have hg:=grown_setCell A vg j (.int .u8 90)
 refine ⟨h.row.same (hoth _ (hne h.row (by decide))),h.ibk.same (hoth _ (hne h.ibk (by decide))),h.tbk.same (hoth _ (hne h.tbk (by decide))),h.nos.same fun g hgg=>hoth g (fun e=>h.nos.other hbk (by decide) (by rw [<-e];exact hgg)),⟨M.set j 90,by simp [hM],Names.own_store ho j 90 90 rfl⟩,h.keep.trans (KeepS.of_grown hg (by have:=h.keep;have:=hlt;omega) (fun g hgg=>by simp at hgg;exact .inl (by omega))),by rw [hsz];exact h.size,fun i h1 h2 h3 h4 h5=>?_,h.newt⟩
 rw [hoth i (fun e=>h4 (by rw [e];rfl))]
 exact h.same i h1 h2 h3 h4 h5
theorem sv_stay {S xb ib tb vB k ny:Nat}{tn:Bs}{x y tv0:Value}{p:List Bs}{M:Bs}{w6 W2 wb:World}(h1:Blk W2 ib 3 #[.int .i64 (k:Int)])(h2:Blk W2 tb 89 #[tv0])(hk:KeepS S ib tb w6 W2)(hy:Disk.Own W2 vB y M)(hM:M.length=ny)(hr:Blk W2 xb 61 #[.string ⟨tn.toArray⟩,x,y])(g:W2.grownBy wb none)(hn:Nos W2 (S+2) tv0 p)(hS:S<=W2.heap.size):SV S xb ib tb vB k tn x y tv0 tv0 ny p w6 W2 wb :=
 ⟨hr.grown g (by simp),h1.grown g (by simp),h2.grown g (by simp),hn.tn (Tn.of_grown (n0:=0) g),⟨M,hM,hy.grown g⟩,hk.trans (KeepS.of_grown g hS (by simp)),g.size,fun i hi _ _ _ _=>g.block i hi (by simp),fun _ h=>.inl h⟩
theorem sv_put {S xb ib tb vB k ny g cap:Nat}{tn:Bs}{x y tv0:Value}{p:List Bs}{M:Bs}{w6 W2 W3 W4:World}(h1:Blk W2 ib 3 #[.int .i64 (k:Int)])(hk:KeepS S ib tb w6 W2)(hy:Disk.Own W2 vB y M)(hM:M.length=ny)(hr:Blk W2 xb 61 #[.string ⟨tn.toArray⟩,x,y])(hn:Nos W2 (S+2) tv0 p)(hS:S<=W2.heap.size)
  (h4:Nos W4 (S+2) (.slice (some ⟨g,0,none⟩) (p.length+1) cap) (p ++ [tn])) (g4:W3.grownBy W4 tv0.ownBlock) (hg:tv0.ownBlock=some g\/g=W3.heap.size) (ht:Blk W4 tb 89 #[tv0]) (g3:W2.grownBy W3 none):SV S xb ib tb vB k tn x y (.slice (some ⟨g,0,none⟩) (p.length+1) cap) tv0 ny (p ++ [tn]) w6 W2 (W4.setCell ⟨tb,0,none⟩ (.slice (some ⟨g,0,none⟩) (p.length+1) cap)):=by
 have hn3:Nos W3 (S+2) tv0 p:=hn.tn (Tn.of_grown (n0:=0) g3)
 have hoth:∀i,i≠tb->(W4.setCell ⟨tb,0,none⟩ (.slice (some ⟨g,0,none⟩) (p.length+1) cap)).heap[i]? = W4.heap[i]?:=fun i hi=>heap_setCell_other W4 _ i _ hi
 have hsz:(W4.setCell ⟨tb,0,none⟩ (.slice (some ⟨g,0,none⟩) (p.length+1) cap)).heap.size=W4.heap.size:=by simp
 have hb4:∀{b t:Nat} {c:Array Value},Blk W2 b t c->t≠9->t≠89->Blk (W4.setCell ⟨tb,0,none⟩ (.slice (some ⟨g,0,none⟩) (p.length+1) cap)) b t c:=fun {b t c} hb h9 h89=>by
  have hb3:=hb.grown g3 (by simp)
  have hb4:=hb3.grown g4 (hn3.other hb3 h9)
  refine hb4.same (hoth b fun e=>?_)
  subst e
  unfold Blk at hb4 ht
  rw [hb4] at ht
  simp at ht
  exact h89 ht.2
 have s3:=g3.size
 have s4:=g4.size
 refine ⟨hb4 hr (by decide) (by decide),hb4 h1 (by decide) (by decide),ht.store 0 _,h4.same fun j hj=>hoth j (fun e=>h4.other ht (by decide) (by rw [<-e];exact hj)),⟨M,hM,?_⟩,?_,by omega,fun i a1 a2 a3 _ a5=>?_,fun j hj=>?_⟩
 ·have hy3:=hy.grown g3
  have hy4:Disk.Own W4 vB y M:=hy3.same fun j hj=>g4.block j (hy3.lt j hj).2 (fun e=>by
   rcases hy3.2 with ⟨e2,_⟩ | ⟨g',cap',cur,e2,_,hg',_⟩
   ·rw [e2] at hj
    simp [Value.ownBlock] at hj
   ·rw [e2] at hj
    simp [Value.ownBlock] at hj
    subst hj
    exact hn3.other (b:=g') (t:=5) hg' (by decide) e.symm)
  exact hy4.same fun j hj=>hoth j (fun e=>hy4.other ht (by decide) (by rw [<-e];exact hj))
 ·exact ((hk.trans (KeepS.of_grown g3 hS (by simp))).trans (KeepS.of_grown g4 (by omega) (fun j hj=>.inl (by have:=(World.ownsRow.lt hn3 j hj).1;omega)))).trans (KeepS.of_grown (grown_setCell W4 tb 0 _) (by omega) (fun j hj=>by simp at hj;exact .inr (.inr hj.symm)))
 ·rw [hoth i a3,g4.block i (by omega) (fun e=>a5 e.symm)]
  exact g3.block i a1 (by simp)
 ·simp [Value.ownBlock] at hj
  subst hj
  rcases hg with h | h
  ·exact .inl h
  ·exact .inr (by omega)
end Go.Proofs.YtakmlhhapegpoaaGreat
